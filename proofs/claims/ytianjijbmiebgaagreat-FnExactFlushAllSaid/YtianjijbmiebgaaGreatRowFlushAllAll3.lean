/-
 Plain lemmas: a row of a call's own with several elements more, at once ('append(a, b...)' of elements that are anything). No condition; nothing of the program is named here.
-/
import Derived.Test.YtianjijbmiebgaaGreatRowFlushAllAll5
import Derived.Test.YtianjijbmiebgaaGreatRowFlushAllAll4
import Derived.Test.YtianjijbmiebgaaGreatData
import Derived.Test.YtianjijbmiebgaaGreatBox
import Derived.Test.YtianjijbmiebgaaGreatWalkGeo
import Derived.Test.YtianjijbmiebgaaGreatKit
import Derived.Test.YtianjijbmiebgaaGreatRows
import Derived.Test.YtianjijbmiebgaaGreatWalkIn
import Derived.Test.YtianjijbmiebgaaGreatWalkEq
import Derived.Test.YtianjijbmiebgaaGreatWalkMark
import Derived.Laws.IdiomCopy
import Derived.Laws.MakeOwn
import Derived.BigQuiet
import Derived.WalkSmall
import Derived.Handy
import Derived.Test.YtianjijbmiebgaaGreatGrow

set_option maxRecDepth 100000
set_option maxHeartbeats 8000000
set_option linter.unusedSimpArgs false

namespace Go.Proofs.YtianjijbmiebgaaGreat
open Go.RowKit

def wsCS (ss : List (List Int)) (cs : List (Int × List Int)) (f : Bool) (bs : List Int) (x : Sup) : List (Int × List Int) := if supB x = true then wrCS ss cs f bs (x.gen % 2) (putD x) else cs
def wsBS (ss : List (List Int)) (cs : List (Int × List Int)) (f : Bool) (bs : List Int) (x : Sup) : List Int := if supB x = true then wrBS ss cs f bs (x.gen % 2) (putD x) else bs
def set4 (w : World) (B : Nat) (v0 v1 v2 v3 : Value) : World := (((w.setCell ⟨B, 0, none⟩ v0).setCell ⟨B, 1, none⟩ v1).setCell ⟨B, 2, none⟩ v2).setCell ⟨B, 3, none⟩ v3
theorem set4_but (w : World) (B : Nat) (v0 v1 v2 v3 : Value) : But B (B + 1) w (set4 w B v0 v1 v2 v3) := by
 unfold set4
 exact (((But.setCell (by omega) (by omega) _).trans (But.setCell (by omega) (by omega) _)).trans (But.setCell (by omega) (by omega) _)).trans (But.setCell (by omega) (by omega) _)
theorem mem_letters2 {w : World} {E : TypeId} {lo hi : Nat} {v0 v1 v3 : Value} {f : Bool} {d : (tMem E).D} (h : (tMem E).Own w lo hi [v0, v1, .bool f, v3] d) : ∃ a0 l0 c0 a1 l1 c1 a3 l3 c3, v0 = .slice a0 l0 c0 /\ v1 = .slice a1 l1 c1 /\ v3 = .slice a3 l3 c3 := by
 obtain ⟨a0, c0, a1, c1, a3, c3, h0, h1, _, h3, _⟩ := mem_rd h.rd
 exact ⟨a0, _, c0, a1, _, c1, a3, _, c3, h0, h1, h3⟩
theorem putD_le2 (x : Sup) : (putD x).length <= 9 := by
 unfold putD
 split <;> simp

theorem implWriteSuper_any (w : World) (E : TypeId) (a0 a1 a3 : Option Addr) (n0 c0 n1 c1 n3 c3 : Nat) (ss : List (List Int)) (cs : List (Int × List Int)) (f : Bool) (bs : List Int) (x : Sup) (h0 : tIntSS.Rd w [.slice a0 n0 c0] ss) (h1 : (tWrS E).Rd w [.slice a1 n1 c1] cs) (h3 : tIntS.Rd w [.slice a3 n3 c3] bs) (hw : wtMem (ss, cs, f, bs) <= 2097152) :
 Calls Tryz.prog 230 #[.agg #[.slice a0 n0 c0, .slice a1 n1 c1, .bool f, .slice a3 n3 c3], .agg #[.int .i64 x.id, .int .i64 x.gen, .int .i64 x.role, .int .i64 x.n, .int .i64 x.s, .int .i64 x.tail, .int .i64 x.lost, .int .i64 x.built]] w fun e w' => ∃ v0 v1 v3, e = .returned (.agg #[v0, v1, .bool f, v3]) /\ (tMem 159).Own w' w.heap.size w'.heap.size [v0, v1, .bool f, v3] (ss, wsCS ss cs f bs x, f, wsBS ss cs f bs x) /\ Below w.heap.size w w' := by
 have hA := ((new_below w (.cells #[.slice a0 n0 c0, .slice a1 n1 c1, .bool f, .slice a3 n3 c3] 109)).alloc (by simp) (.cells #[.int .i64 x.id, .int .i64 x.gen, .int .i64 x.role, .int .i64 x.n, .int .i64 x.s, .int .i64 x.tail, .int .i64 x.lost, .int .i64 x.built] 133)).alloc (by simp; omega) (.cells #[.slice none 0 0, .slice none 0 0, .bool false, .slice none 0 0] 109)
 have M0 := ((Box.new w 109 #[.slice a0 n0 c0, .slice a1 n1 c1, .bool f, .slice a3 n3 c3]).alloc (.cells #[.int .i64 x.id, .int .i64 x.gen, .int .i64 x.role, .int .i64 x.n, .int .i64 x.s, .int .i64 x.tail, .int .i64 x.lost, .int .i64 x.built] 133)).alloc (.cells #[.slice none 0 0, .slice none 0 0, .bool false, .slice none 0 0] 109)
 have S0 := (Box.new (w.alloc (.cells #[.slice a0 n0 c0, .slice a1 n1 c1, .bool f, .slice a3 n3 c3] 109)) 133 #[.int .i64 x.id, .int .i64 x.gen, .int .i64 x.role, .int .i64 x.n, .int .i64 x.s, .int .i64 x.tail, .int .i64 x.lost, .int .i64 x.built]).alloc (.cells #[.slice none 0 0, .slice none 0 0, .bool false, .slice none 0 0] 109)
 have R0 := Box.new ((w.alloc (.cells #[.slice a0 n0 c0, .slice a1 n1 c1, .bool f, .slice a3 n3 c3] 109)).alloc (.cells #[.int .i64 x.id, .int .i64 x.gen, .int .i64 x.role, .int .i64 x.n, .int .i64 x.s, .int .i64 x.tail, .int .i64 x.lost, .int .i64 x.built] 133)) 109 #[.slice none 0 0, .slice none 0 0, .bool false, .slice none 0 0]
 rw [World.size_alloc] at S0
 rw [World.size_alloc, World.size_alloc] at R0
 obtain ⟨x0, x1, x2, x3, x4, x5, x6, x7⟩ := S0.cells8
 go_enter Tryz.func230, Tryz.ntmps230
 go_wp2_with fail
 generalize ((w.alloc (.cells #[.slice a0 n0 c0, .slice a1 n1 c1, .bool f, .slice a3 n3 c3] 109)).alloc (.cells #[.int .i64 x.id, .int .i64 x.gen, .int .i64 x.role, .int .i64 x.n, .int .i64 x.s, .int .i64 x.tail, .int .i64 x.lost, .int .i64 x.built] 133)).alloc (.cells #[.slice none 0 0, .slice none 0 0, .bool false, .slice none 0 0] 109) = W at hA M0 S0 R0 x0 x1 x2 x3 x4 x5 x6 x7 ⊢
 refine (implSuperOk_any _ x).mono ?_
 rintro e w1 ⟨rfl, b1⟩
 have M1 := M0.below b1 M0.lt
 have S1 := S0.below b1 S0.lt
 have R1 := R0.below b1 R0.lt
 have B1 := Below.andThen hA b1
 clear x0 x1 x2 x3 x4 x5 x6 x7 M0 S0 R0 hA b1
 obtain ⟨q0, q1, q2, q3⟩ := M1.cells4
 have zR := R1.lt
 have zS := S1.lt
 have zM := M1.lt
 by_cases hx : supB x = true
 . have hg := (supB_iff.1 hx).2.2.2.2.1
   have e1 : x.gen.tmod 2 = x.gen % 2 := Int.tmod_eq_emod_of_nonneg hg.1
   have HC : Hid (wsCS ss cs f bs x = wrCS ss cs f bs (x.gen % 2) (putD x)) := by unfold Hid wsCS; rw [if_pos hx]
   have HB : Hid (wsBS ss cs f bs x = wrBS ss cs f bs (x.gen % 2) (putD x)) := by unfold Hid wsBS; rw [if_pos hx]
   have hpl := putD_le2 x
   obtain ⟨x0, x1, x2, x3, x4, x5, x6, x7⟩ := S1.cells8
   have HB1 := hidden B1
   have HR1 := hidden R1
   clear B1 R1
   have hS : ∀ w', Box w' w.heap.size 109 #[.slice a0 n0 c0, .slice a1 n1 c1, .bool f, .slice a3 n3 c3] -> Box w' (w.heap.size + 1) 133 #[.int .i64 x.id, .int .i64 x.gen, .int .i64 x.role, .int .i64 x.n, .int .i64 x.s, .int .i64 x.tail, .int .i64 x.lost, .int .i64 x.built] -> w'.cell? ⟨w.heap.size, 0, none⟩ = some (.slice a0 n0 c0) /\ w'.cell? ⟨w.heap.size, 1, none⟩ = some (.slice a1 n1 c1) /\ w'.cell? ⟨w.heap.size, 2, none⟩ = some (.bool f) /\ w'.cell? ⟨w.heap.size, 3, none⟩ = some (.slice a3 n3 c3) /\ w'.cell? ⟨w.heap.size + 1, 0, none⟩ = some (.int .i64 x.id) /\ w'.cell? ⟨w.heap.size + 1, 1, none⟩ = some (.int .i64 x.gen) /\ w'.cell? ⟨w.heap.size + 1, 2, none⟩ = some (.int .i64 x.role) /\ w'.cell? ⟨w.heap.size + 1, 3, none⟩ = some (.int .i64 x.n) /\ w'.cell? ⟨w.heap.size + 1, 4, none⟩ = some (.int .i64 x.s) /\ w'.cell? ⟨w.heap.size + 1, 5, none⟩ = some (.int .i64 x.tail) /\ w'.cell? ⟨w.heap.size + 1, 6, none⟩ = some (.int .i64 x.lost) /\ w'.cell? ⟨w.heap.size + 1, 7, none⟩ = some (.int .i64 x.built) := fun w' hm hs => ⟨hm.cell 0, hm.cell 1, hm.cell 2, hm.cell 3, hs.cell 0, hs.cell 1, hs.cell 2, hs.cell 3, hs.cell 4, hs.cell 5, hs.cell 6, hs.cell 7⟩
   have hD : ∀ w', Box w' w.heap.size 109 #[.slice a0 n0 c0, .slice a1 n1 c1, .bool f, .slice a3 n3 c3] -> Box w' (w.heap.size + 1) 133 #[.int .i64 x.id, .int .i64 x.gen, .int .i64 x.role, .int .i64 x.n, .int .i64 x.s, .int .i64 x.tail, .int .i64 x.lost, .int .i64 x.built] -> w'.drew.cell? ⟨w.heap.size, 0, none⟩ = some (.slice a0 n0 c0) /\ w'.drew.cell? ⟨w.heap.size, 1, none⟩ = some (.slice a1 n1 c1) /\ w'.drew.cell? ⟨w.heap.size, 2, none⟩ = some (.bool f) /\ w'.drew.cell? ⟨w.heap.size, 3, none⟩ = some (.slice a3 n3 c3) /\ w'.drew.cell? ⟨w.heap.size + 1, 0, none⟩ = some (.int .i64 x.id) /\ w'.drew.cell? ⟨w.heap.size + 1, 1, none⟩ = some (.int .i64 x.gen) /\ w'.drew.cell? ⟨w.heap.size + 1, 2, none⟩ = some (.int .i64 x.role) /\ w'.drew.cell? ⟨w.heap.size + 1, 3, none⟩ = some (.int .i64 x.n) /\ w'.drew.cell? ⟨w.heap.size + 1, 4, none⟩ = some (.int .i64 x.s) /\ w'.drew.cell? ⟨w.heap.size + 1, 5, none⟩ = some (.int .i64 x.tail) /\ w'.drew.cell? ⟨w.heap.size + 1, 6, none⟩ = some (.int .i64 x.lost) /\ w'.drew.cell? ⟨w.heap.size + 1, 7, none⟩ = some (.int .i64 x.built) := hS
   have HM1 := hidden M1
   have HS1 := hidden S1
   have nA : Hid (w.heap.size ≠ w1.heap.size) := by unfold Hid; omega
   have nA' : Hid (w.heap.size + 1 ≠ w1.heap.size) := by unfold Hid; omega
   have ZW : Hid (w.heap.size + 2 < w1.heap.size) := by unfold Hid; omega
   have HG := hidden hg.1
   clear M1 S1 hg
   go_wp2_with fail
   go_region_held3 (fun w' => w'.cell? ⟨w.heap.size, 0, none⟩ = some (.slice a0 n0 c0) /\ w'.cell? ⟨w.heap.size, 1, none⟩ = some (.slice a1 n1 c1) /\ w'.cell? ⟨w.heap.size, 2, none⟩ = some (.bool f) /\ w'.cell? ⟨w.heap.size, 3, none⟩ = some (.slice a3 n3 c3) /\ w'.cell? ⟨w.heap.size + 1, 0, none⟩ = some (.int .i64 x.id) /\ w'.cell? ⟨w.heap.size + 1, 1, none⟩ = some (.int .i64 x.gen) /\ w'.cell? ⟨w.heap.size + 1, 2, none⟩ = some (.int .i64 x.role) /\ w'.cell? ⟨w.heap.size + 1, 3, none⟩ = some (.int .i64 x.n) /\ w'.cell? ⟨w.heap.size + 1, 4, none⟩ = some (.int .i64 x.s) /\ w'.cell? ⟨w.heap.size + 1, 5, none⟩ = some (.int .i64 x.tail) /\ w'.cell? ⟨w.heap.size + 1, 6, none⟩ = some (.int .i64 x.lost) /\ w'.cell? ⟨w.heap.size + 1, 7, none⟩ = some (.int .i64 x.built))
    (first
     | (with_reducible exact hS w4 M4.out S4.out)
     | (with_reducible exact hS _ (M4.out.alloc _) (S4.out.alloc _))
     | (with_reducible exact hS _ ((((M4.out.other nA.out 0 _).other nA.out 1 _).other nA.out 2 _).other nA.out 3 _) ((((S4.out.other nA'.out 0 _).other nA'.out 1 _).other nA'.out 2 _).other nA'.out 3 _))
     | (with_reducible exact hS _ ((((M4.out.other nB.out 0 _).other nB.out 1 _).other nB.out 2 _).other nB.out 3 _) ((((S4.out.other nB'.out 0 _).other nB'.out 1 _).other nB'.out 2 _).other nB'.out 3 _))
     | (with_reducible exact hS w3 M3.out S3.out)
     | (with_reducible exact hS _ (M3.out.alloc _) (S3.out.alloc _))
     | (with_reducible exact hD _ HM1.out HS1.out)
     | (with_reducible exact hD _ (HM1.out.alloc _) (HS1.out.alloc _))
     | go_keep)
    (first
     | (go_at_call 249; refine (superPlace_any _ _ HG.out).mono ?_; rintro e w2 ⟨rfl, rfl⟩)
     | (go_at_call 250; refine (implPutSuper_any _ x).mono ?_; rintro e w3 ⟨pa, pl, pc, rfl, o3, b3⟩; have hpl3 := (row_length o3.rd).1; have b3c : Below w1.drew.heap.size w1.drew w3 := (by with_reducible exact b3); have b3' : Below w1.heap.size w1 w3 := (Below.refl w1.heap.size w1).drew.trans b3c; have M3 := hidden (HM1.out.below b3' zM); have S3 := hidden (HS1.out.below b3' zS); have O3 := hidden o3; have hb3 := hidden b3'; clear b3 b3c b3' o3)
     | (go_at_call 220; have xo3 := XO3.out; refine (implWriteSec_any _ E _ _ _ _ _ _ _ _ _ _ _ _ ss cs f bs (x.gen % 2) (putD x) (by with_reducible exact h0.below (Below.andThen HB1.out hb3.out)) (by with_reducible exact h1.below (Below.andThen HB1.out hb3.out)) (by with_reducible exact h3.below (Below.andThen HB1.out hb3.out)) (by with_reducible exact O3.out.rd) hw (by omega)).mono ?_; rintro e w4 ⟨u0, u1, u3, rfl, o4, b4⟩; obtain ⟨fa0, fl0, fc0, fa1, fl1, fc1, fa3, fl3, fc3, hv0, hv1, hv3⟩ := mem_letters2 o4; subst hv0 hv1 hv3; have M4 := hidden (M3.out.below b4 M3.out.lt); have S4 := hidden (S3.out.below b4 S3.out.lt); have xo4 := xo3.below b4 xo3.lt; obtain ⟨s0, s1, s2, s3⟩ := xo4.cells4; have u0 := xo4.frozen 0; have u1 := xo4.frozen 1; have u2 := xo4.frozen 2; have u3 := xo4.frozen 3; have XO4 := hidden xo4; have O4 := hidden o4; have hb4 := hidden b4; clear b4 o4 xo4 xo3)
     | (go_at_call 220; refine (implWriteSec_any _ E _ _ _ _ _ _ _ _ _ _ _ _ ss cs f bs (x.gen % 2) (putD x) (by with_reducible exact h0.below (Below.andThen HB1.out hb3.out)) (by with_reducible exact h1.below (Below.andThen HB1.out hb3.out)) (by with_reducible exact h3.below (Below.andThen HB1.out hb3.out)) (by with_reducible exact O3.out.rd) hw (by omega)).mono ?_; rintro e w4 ⟨u0, u1, u3, rfl, o4, b4⟩; obtain ⟨fa0, fl0, fc0, fa1, fl1, fc1, fa3, fl3, fc3, hv0, hv1, hv3⟩ := mem_letters2 o4; subst hv0 hv1 hv3; have M4 := hidden (M3.out.below b4 M3.out.lt); have S4 := hidden (S3.out.below b4 S3.out.lt); have O4 := hidden o4; have hb4 := hidden b4; clear b4 o4)
     | (go_at_call 220; refine (implWriteSec_any _ E _ _ _ _ _ _ _ _ _ _ _ _ ss cs f bs (x.gen % 2) (putD x) (by with_reducible exact h0.below ((Below.andThen HB1.out hb3.out).alloc (Below.andThen HB1.out hb3.out).size _)) (by with_reducible exact h1.below ((Below.andThen HB1.out hb3.out).alloc (Below.andThen HB1.out hb3.out).size _)) (by with_reducible exact h3.below ((Below.andThen HB1.out hb3.out).alloc (Below.andThen HB1.out hb3.out).size _)) (by with_reducible exact (O3.out.rd.below (new_below w3 _))) hw (by omega)).mono ?_; rintro e w4 ⟨u0, u1, u3, rfl, o4, b4⟩; obtain ⟨fa0, fl0, fc0, fa1, fl1, fc1, fa3, fl3, fc3, hv0, hv1, hv3⟩ := mem_letters2 o4; subst hv0 hv1 hv3; have M4 := hidden ((M3.out.alloc (.cells #[.slice none 0 0, .slice none 0 0, .bool false, .slice none 0 0] 109)).below b4 (M3.out.alloc (.cells #[.slice none 0 0, .slice none 0 0, .bool false, .slice none 0 0] 109)).lt); have S4 := hidden ((S3.out.alloc (.cells #[.slice none 0 0, .slice none 0 0, .bool false, .slice none 0 0] 109)).below b4 (S3.out.alloc (.cells #[.slice none 0 0, .slice none 0 0, .bool false, .slice none 0 0] 109)).lt); have xp4 := (Box.new w3 109 #[.slice none 0 0, .slice none 0 0, .bool false, .slice none 0 0]).below b4 (by simp); obtain ⟨s0, s1, s2, s3⟩ := xp4.cells4; have u0 := xp4.frozen 0; have u1 := xp4.frozen 1; have u2 := xp4.frozen 2; have u3 := xp4.frozen 3; have z3 := hb3.out.size; have zW := ZW.out; have nB : Hid (w.heap.size ≠ w3.heap.size) := (by unfold Hid; omega); have nB' : Hid (w.heap.size + 1 ≠ w3.heap.size) := (by unfold Hid; omega); have XP4 := hidden xp4; have O4 := hidden o4; have hb4 := hidden b4; clear b4 o4 xp4 z3 zW)
     | (go_at_call 250; refine (implPutSuper_any _ x).mono ?_; rintro e w3 ⟨pa, pl, pc, rfl, o3, b3⟩; have hpl3 := (row_length o3.rd).1; have ba : Below w1.heap.size w1 (w1.alloc (.cells #[.slice none 0 0, .slice none 0 0, .bool false, .slice none 0 0] 109)) := new_below w1 _; have b3c : Below (w1.alloc (.cells #[.slice none 0 0, .slice none 0 0, .bool false, .slice none 0 0] 109)).drew.heap.size (w1.alloc (.cells #[.slice none 0 0, .slice none 0 0, .bool false, .slice none 0 0] 109)).drew w3 := (by with_reducible exact b3); have b3a : Below (w1.alloc (.cells #[.slice none 0 0, .slice none 0 0, .bool false, .slice none 0 0] 109)).heap.size (w1.alloc (.cells #[.slice none 0 0, .slice none 0 0, .bool false, .slice none 0 0] 109)) w3 := (Below.refl _ (w1.alloc (.cells #[.slice none 0 0, .slice none 0 0, .bool false, .slice none 0 0] 109))).drew.trans b3c; have b3' : Below w1.heap.size w1 w3 := Below.andThen ba b3a; have M3 := hidden (HM1.out.below b3' zM); have S3 := hidden (HS1.out.below b3' zS); have XO3 := hidden ((Box.new w1 109 #[.slice none 0 0, .slice none 0 0, .bool false, .slice none 0 0]).below b3a (by simp)); have O3 := hidden o3; have hb3 := hidden b3'; clear b3 b3c b3a ba b3' o3))
   . have z4 := hb4.out.size
     have z3 := hb3.out.size
     have zW := ZW.out
     have B4 := Below.andThen HB1.out (Below.andThen hb3.out hb4.out)
     have RF0 := (HR1.out.below (Below.andThen hb3.out hb4.out) zR).alloc (.cells #[.slice fa0 fl0 fc0, .slice fa1 fl1 fc1, .bool f, .slice fa3 fl3 fc3] 109)
     have YF0 := Box.new w4 109 #[.slice fa0 fl0 fc0, .slice fa1 fl1 fc1, .bool f, .slice fa3 fl3 fc3]
     have OF0 := (O4.out.below (new_below w4 (.cells #[.slice fa0 fl0 fc0, .slice fa1 fl1 fc1, .bool f, .slice fa3 fl3 fc3] 109))).widen (lo' := w1.heap.size) (hi' := (w4.alloc (.cells #[.slice fa0 fl0 fc0, .slice fa1 fl1 fc1, .bool f, .slice fa3 fl3 fc3] 109)).heap.size) (by omega) (by simp)
     have BF0 := B4.alloc B4.size (.cells #[.slice fa0 fl0 fc0, .slice fa1 fl1 fc1, .bool f, .slice fa3 fl3 fc3] 109)
     have ZF0 : w.heap.size + 2 < w1.heap.size := zW
     clear B4
     have RF := RF0
     have HBF := hidden BF0
     have HYF := hidden YF0
     have HOF := hidden OF0
     have zF := ZF0
     clear RF0 BF0 YF0 OF0 ZF0
     generalize w4.alloc (.cells #[.slice fa0 fl0 fc0, .slice fa1 fl1 fc1, .bool f, .slice fa3 fl3 fc3] 109) = WF at RF HBF HYF HOF zF ⊢
     generalize w4.heap.size = BO at HYF ⊢
     obtain ⟨y0, y1, y2, y3⟩ := HYF.out.cells4
     obtain ⟨r0, r1, r2, r3⟩ := RF.cells4
     have fz := RF.frozen
     have hbt := set4_but WF (w.heap.size + 1 + 1) (.slice fa0 fl0 fc0) (.slice fa1 fl1 fc1) (.bool f) (.slice fa3 fl3 fc3)
     have zt := hbt.size
     have FO := hidden ((HOF.out.but hbt (.inr (by omega))).widen (lo' := w.heap.size) (hi' := (set4 WF (w.heap.size + 1 + 1) (.slice fa0 fl0 fc0) (.slice fa1 fl1 fc1) (.bool f) (.slice fa3 fl3 fc3)).heap.size) (by omega) hbt.size)
     rw [← HC.out, ← HB.out] at FO
     have FB := hidden (Below.andBut HBF.out hbt (by omega))
     unfold set4 at FO FB
     clear hbt RF HBF HYF HOF zt
     go_wp2
     refine bodyPost_ret (v := .agg #[.slice fa0 fl0 fc0, .slice fa1 fl1 fc1, .bool f, .slice fa3 fl3 fc3]) (by simp [results, Tryz.results230, go_sem, r0, r1, r2, r3]) rfl ?_
     exact ⟨_, _, _, rfl, FO.out, FB.out⟩
   . have xo4 := XP4.out
     have zal : (w3.alloc (.cells #[.slice none 0 0, .slice none 0 0, .bool false, .slice none 0 0] 109)).heap.size = w3.heap.size + 1 := by simp
     have z4 := hb4.out.size
     have z3 := hb3.out.size
     have zW := ZW.out
     have hbs := set4_but w4 w3.heap.size (.slice fa0 fl0 fc0) (.slice fa1 fl1 fc1) (.bool f) (.slice fa3 fl3 fc3)
     have zs := hbs.size
     have B4 := Below.andThen HB1.out (Below.andThen hb3.out (Below.andThen (new_below w3 _) hb4.out))
     have RF0 := (HR1.out.below (Below.andThen hb3.out (Below.andThen (new_below w3 _) hb4.out)) zR).kept (hbs.block _ (by omega) (by omega))
     have YF0 := (((xo4.set 0 (.slice fa0 fl0 fc0)).set 1 (.slice fa1 fl1 fc1)).set 2 (.bool f)).set 3 (.slice fa3 fl3 fc3)
     have OF0 := ((O4.out.but hbs (.inr (by omega))).widen (lo' := w1.heap.size) (hi' := (set4 w4 w3.heap.size (.slice fa0 fl0 fc0) (.slice fa1 fl1 fc1) (.bool f) (.slice fa3 fl3 fc3)).heap.size) (by omega) zs)
     have BF0 := Below.andBut B4 hbs (by omega)
     have ZF0 : w.heap.size + 2 < w1.heap.size := zW
     unfold set4 at RF0 OF0 BF0
     clear hbs zs B4 xo4
     have RF := RF0
     have HBF := hidden BF0
     have HYF := hidden YF0
     have HOF := hidden OF0
     have zF := ZF0
     clear RF0 BF0 YF0 OF0 ZF0
     generalize ((((w4.setCell ⟨w3.heap.size, 0, none⟩ (.slice fa0 fl0 fc0)).setCell ⟨w3.heap.size, 1, none⟩ (.slice fa1 fl1 fc1)).setCell ⟨w3.heap.size, 2, none⟩ (.bool f)).setCell ⟨w3.heap.size, 3, none⟩ (.slice fa3 fl3 fc3)) = WF at RF HBF HYF HOF zF ⊢
     generalize w3.heap.size = BO at HYF ⊢
     obtain ⟨y0, y1, y2, y3⟩ := HYF.out.cells4
     obtain ⟨r0, r1, r2, r3⟩ := RF.cells4
     have fz := RF.frozen
     have hbt := set4_but WF (w.heap.size + 1 + 1) (.slice fa0 fl0 fc0) (.slice fa1 fl1 fc1) (.bool f) (.slice fa3 fl3 fc3)
     have zt := hbt.size
     have FO := hidden ((HOF.out.but hbt (.inr (by omega))).widen (lo' := w.heap.size) (hi' := (set4 WF (w.heap.size + 1 + 1) (.slice fa0 fl0 fc0) (.slice fa1 fl1 fc1) (.bool f) (.slice fa3 fl3 fc3)).heap.size) (by omega) hbt.size)
     rw [← HC.out, ← HB.out] at FO
     have FB := hidden (Below.andBut HBF.out hbt (by omega))
     unfold set4 at FO FB
     clear hbt RF HBF HYF HOF zt
     go_wp2
     refine bodyPost_ret (v := .agg #[.slice fa0 fl0 fc0, .slice fa1 fl1 fc1, .bool f, .slice fa3 fl3 fc3]) (by simp [results, Tryz.results230, go_sem, r0, r1, r2, r3]) rfl ?_
     exact ⟨_, _, _, rfl, FO.out, FB.out⟩
   . have xo4 := XO4.out
     have zal := XO3.out.lt
     have z4 := hb4.out.size
     have z3 := hb3.out.size
     have zW := ZW.out
     have hbs := set4_but w4 w1.heap.size (.slice fa0 fl0 fc0) (.slice fa1 fl1 fc1) (.bool f) (.slice fa3 fl3 fc3)
     have zs := hbs.size
     have B4 := Below.andThen HB1.out (Below.andThen hb3.out hb4.out)
     have RF0 := (HR1.out.below (Below.andThen hb3.out hb4.out) zR).kept (hbs.block _ (by omega) (by omega))
     have YF0 := (((xo4.set 0 (.slice fa0 fl0 fc0)).set 1 (.slice fa1 fl1 fc1)).set 2 (.bool f)).set 3 (.slice fa3 fl3 fc3)
     have OF0 := ((O4.out.but hbs (.inr (by omega))).widen (lo' := w1.heap.size) (hi' := (set4 w4 w1.heap.size (.slice fa0 fl0 fc0) (.slice fa1 fl1 fc1) (.bool f) (.slice fa3 fl3 fc3)).heap.size) (by omega) zs)
     have BF0 := Below.andBut B4 hbs (by omega)
     have ZF0 : w.heap.size + 2 < w1.heap.size := zW
     unfold set4 at RF0 OF0 BF0
     clear hbs zs B4 xo4
     have RF := RF0
     have HBF := hidden BF0
     have HYF := hidden YF0
     have HOF := hidden OF0
     have zF := ZF0
     clear RF0 BF0 YF0 OF0 ZF0
     generalize ((((w4.setCell ⟨w1.heap.size, 0, none⟩ (.slice fa0 fl0 fc0)).setCell ⟨w1.heap.size, 1, none⟩ (.slice fa1 fl1 fc1)).setCell ⟨w1.heap.size, 2, none⟩ (.bool f)).setCell ⟨w1.heap.size, 3, none⟩ (.slice fa3 fl3 fc3)) = WF at RF HBF HYF HOF zF ⊢
     generalize w1.heap.size = BO at HYF ⊢
     obtain ⟨y0, y1, y2, y3⟩ := HYF.out.cells4
     obtain ⟨r0, r1, r2, r3⟩ := RF.cells4
     have fz := RF.frozen
     have hbt := set4_but WF (w.heap.size + 1 + 1) (.slice fa0 fl0 fc0) (.slice fa1 fl1 fc1) (.bool f) (.slice fa3 fl3 fc3)
     have zt := hbt.size
     have FO := hidden ((HOF.out.but hbt (.inr (by omega))).widen (lo' := w.heap.size) (hi' := (set4 WF (w.heap.size + 1 + 1) (.slice fa0 fl0 fc0) (.slice fa1 fl1 fc1) (.bool f) (.slice fa3 fl3 fc3)).heap.size) (by omega) hbt.size)
     rw [← HC.out, ← HB.out] at FO
     have FB := hidden (Below.andBut HBF.out hbt (by omega))
     unfold set4 at FO FB
     clear hbt RF HBF HYF HOF zt
     go_wp2
     refine bodyPost_ret (v := .agg #[.slice fa0 fl0 fc0, .slice fa1 fl1 fc1, .bool f, .slice fa3 fl3 fc3]) (by simp [results, Tryz.results230, go_sem, r0, r1, r2, r3]) rfl ?_
     exact ⟨_, _, _, rfl, FO.out, FB.out⟩
   . have xo4 := XO4.out
     have zal := XO3.out.lt
     have z4 := hb4.out.size
     have z3 := hb3.out.size
     have zW := ZW.out
     have hbs := set4_but w4 w1.heap.size (.slice fa0 fl0 fc0) (.slice fa1 fl1 fc1) (.bool f) (.slice fa3 fl3 fc3)
     have zs := hbs.size
     have B4 := Below.andThen HB1.out (Below.andThen hb3.out hb4.out)
     have RF0 := (HR1.out.below (Below.andThen hb3.out hb4.out) zR).kept (hbs.block _ (by omega) (by omega))
     have YF0 := (((xo4.set 0 (.slice fa0 fl0 fc0)).set 1 (.slice fa1 fl1 fc1)).set 2 (.bool f)).set 3 (.slice fa3 fl3 fc3)
     have OF0 := ((O4.out.but hbs (.inr (by omega))).widen (lo' := w1.heap.size) (hi' := (set4 w4 w1.heap.size (.slice fa0 fl0 fc0) (.slice fa1 fl1 fc1) (.bool f) (.slice fa3 fl3 fc3)).heap.size) (by omega) zs)
     have BF0 := Below.andBut B4 hbs (by omega)
     have ZF0 : w.heap.size + 2 < w1.heap.size := zW
     unfold set4 at RF0 OF0 BF0
     clear hbs zs B4 xo4
     have RF := RF0
     have HBF := hidden BF0
     have HYF := hidden YF0
     have HOF := hidden OF0
     have zF := ZF0
     clear RF0 BF0 YF0 OF0 ZF0
     generalize ((((w4.setCell ⟨w1.heap.size, 0, none⟩ (.slice fa0 fl0 fc0)).setCell ⟨w1.heap.size, 1, none⟩ (.slice fa1 fl1 fc1)).setCell ⟨w1.heap.size, 2, none⟩ (.bool f)).setCell ⟨w1.heap.size, 3, none⟩ (.slice fa3 fl3 fc3)) = WF at RF HBF HYF HOF zF ⊢
     generalize w1.heap.size = BO at HYF ⊢
     obtain ⟨y0, y1, y2, y3⟩ := HYF.out.cells4
     obtain ⟨r0, r1, r2, r3⟩ := RF.cells4
     have fz := RF.frozen
     have hbt := set4_but WF (w.heap.size + 1 + 1) (.slice fa0 fl0 fc0) (.slice fa1 fl1 fc1) (.bool f) (.slice fa3 fl3 fc3)
     have zt := hbt.size
     have FO := hidden ((HOF.out.but hbt (.inr (by omega))).widen (lo' := w.heap.size) (hi' := (set4 WF (w.heap.size + 1 + 1) (.slice fa0 fl0 fc0) (.slice fa1 fl1 fc1) (.bool f) (.slice fa3 fl3 fc3)).heap.size) (by omega) hbt.size)
     rw [← HC.out, ← HB.out] at FO
     have FB := hidden (Below.andBut HBF.out hbt (by omega))
     unfold set4 at FO FB
     clear hbt RF HBF HYF HOF zt
     go_wp2
     refine bodyPost_ret (v := .agg #[.slice fa0 fl0 fc0, .slice fa1 fl1 fc1, .bool f, .slice fa3 fl3 fc3]) (by simp [results, Tryz.results230, go_sem, r0, r1, r2, r3]) rfl ?_
     exact ⟨_, _, _, rfl, FO.out, FB.out⟩
 . have hx' : supB x = false := by simpa using hx
   have HC : Hid (wsCS ss cs f bs x = cs) := by unfold Hid wsCS; rw [if_neg hx]
   have HB : Hid (wsBS ss cs f bs x = bs) := by unfold Hid wsBS; rw [if_neg hx]
   go_wp2_with fail
   refine (copyMem_any _ E _ _ _ _ _ _ _ _ _ ss cs f bs (h0.below B1) (h1.below B1) (h3.below B1) hw).mono ?_
   rintro e w2 ⟨v0, v1, v3, m1, m2, rfl, k3, k0, k1, zm1, zm2, zm3, b2⟩
   have R2 := R1.below b2 zR
   have B2 := Below.andThen B1 b2
   obtain ⟨fa0, fc0, rfl⟩ := row_shape k0.rd
   obtain ⟨fa1, fc1, rfl⟩ := row_shape k1.rd
   obtain ⟨fa3, fc3, rfl⟩ := row_shape k3.rd
   obtain ⟨r0, r1, r2, r3⟩ := R2.cells4
   have fz := R2.frozen
   have zw := b2.size
   have hbt := set4_but w2 (w.heap.size + 1 + 1) (.slice fa0 ss.length fc0) (.slice fa1 cs.length fc1) (.bool f) (.slice fa3 bs.length fc3)
   have zt := hbt.size
   have FO := hidden (mem_own3 (lo := w.heap.size) (hi := (set4 w2 (w.heap.size + 1 + 1) (.slice fa0 ss.length fc0) (.slice fa1 cs.length fc1) (.bool f) (.slice fa3 bs.length fc3)).heap.size) (f := f) (k0.but hbt (by omega)) (k1.but hbt (by omega)) (k3.but hbt (by omega)) (by omega) (by omega) (by omega) (by omega) (by omega) (by omega))
   have FB := hidden (Below.andBut B2 hbt (by omega))
   unfold set4 at FO FB
   clear hbt R1 R2 B1 B2 b2 q0 q1 q2 q3 M1 S1 k0 k1 k3 zt
   go_wp2
   refine bodyPost_ret (v := .agg #[.slice fa0 ss.length fc0, .slice fa1 cs.length fc1, .bool f, .slice fa3 bs.length fc3]) (by simp [results, Tryz.results230, go_sem, r0, r1, r2, r3]) rfl ?_
   exact ⟨_, _, _, rfl, by rw [HC.out, HB.out]; exact FO.out, FB.out⟩

theorem asc_pairwise {bs : List Int} (ha : ∀ i, i + 1 < bs.length -> bs.getD i 0 < bs.getD (i + 1) 0) : bs.Pairwise (· < ·) := by
 have mono : ∀ d i, i + (d + 1) < bs.length -> bs.getD i 0 < bs.getD (i + (d + 1)) 0 := by
  intro d
  induction d with
  | zero => intro i hi; exact ha i hi
  | succ d ih =>
   intro i hi
   have h1 := ih i (by omega)
   have h2 := ha (i + (d + 1)) (by omega)
   have e : i + (d + 1) + 1 = i + (d + 1 + 1) := by omega
   rw [e] at h2
   omega
 rw [List.pairwise_iff_getElem]
 intro i j hi hj hij
 have h := mono (j - i - 1) i (by omega)
 have e : i + (j - i - 1 + 1) = j := by omega
 rw [e, List.getD_eq_getElem?_getD, List.getD_eq_getElem?_getD, List.getElem?_eq_getElem hi, List.getElem?_eq_getElem hj] at h
 exact h

theorem badB_iff (n : Int) (bs : List Int) : badB n bs = true ↔ (∀ x ∈ bs, 0 <= x /\ x <= n - 1) /\ bs.Pairwise (· < ·) := by
 unfold badB
 rw [List.all_eq_true]
 constructor
 . intro h
   refine ⟨fun x hx => ?_, asc_pairwise (fun i hi => ?_)⟩
   . obtain ⟨i, hi⟩ := List.mem_iff_getElem?.1 hx
     have hil : i < bs.length := (List.getElem?_eq_some_iff.1 hi).1
     have h1 := h i (List.mem_range.2 hil)
     unfold badAt inB at h1
     rw [List.getD_eq_getElem?_getD, hi] at h1
     simp at h1
     omega
   . have h1 := h (i + 1) (List.mem_range.2 hi)
     unfold badAt at h1
     simp at h1
     rw [List.getD_eq_getElem?_getD, List.getD_eq_getElem?_getD]
     exact h1.2
 . rintro ⟨h1, h2⟩ i hi
   have hil : i < bs.length := List.mem_range.1 hi
   unfold badAt inB
   have e : bs.getD i 0 = bs[i] := by rw [List.getD_eq_getElem?_getD, List.getElem?_eq_getElem hil]; rfl
   have h3 := h1 bs[i] (List.getElem_mem hil)
   rw [e]
   simp only [Bool.and_eq_true, Bool.or_eq_true, decide_eq_true_eq]
   refine ⟨⟨by omega, by omega⟩, ?_⟩
   by_cases h0 : i = 0
   . exact .inl h0
   . right
     have h4 := List.pairwise_iff_getElem.1 h2 (i - 1) i (by omega) hil (by omega)
     rw [List.getD_eq_getElem?_getD, List.getElem?_eq_getElem (by omega : i - 1 < bs.length)]
     exact h4

theorem memB_iff (ss : List (List Int)) (cs : List (Int × List Int)) (bs : List Int) : memB ss cs bs = true ↔ (∀ x ∈ ss, secB x = true) /\ (∀ x ∈ cs, wrB ss.length x = true) /\ badB ss.length bs = true /\ inB ss.length 1 20 = true /\ cs.length <= 60 := by
 unfold memB
 simp only [Bool.and_eq_true, List.all_eq_true, decide_eq_true_eq]

theorem memB_flush {ss : List (List Int)} {cs : List (Int × List Int)} {bs : List Int} (h : memB ss cs bs = true) (ks : List (Int × List Int)) (hk : ∀ x ∈ ks, x ∈ cs) : memB (flushD ss ks) [] bs = true := by
 obtain ⟨h1, h2, h3, h4, _⟩ := (memB_iff _ _ _).1 h
 rw [memB_iff, flushD_length]
 refine ⟨fun x hx => ?_, by simp, h3, h4, by simp⟩
 unfold flushD at hx
 obtain ⟨k, hkr, rfl⟩ := List.mem_map.1 hx
 have hkl : k < ss.length := List.mem_range.1 hkr
 cases hl : lastW ks (k : Int) with
 | some zs =>
  have h5 := h2 _ (hk _ (lastW_mem hl))
  unfold wrB at h5
  simp only [Bool.and_eq_true] at h5
  exact h5.2
 | none => exact h1 _ (List.mem_of_getElem? (getD_some hkl))

theorem memB_write {ss : List (List Int)} {cs : List (Int × List Int)} {f : Bool} {bs : List Int} {n : Int} {sw : List Int} (h : wrOk ss cs f bs n sw = true) : memB ss (cs ++ [(n, sw)]) (filt bs n) = true := by
 unfold wrOk at h
 simp only [Bool.and_eq_true, decide_eq_true_eq] at h
 obtain ⟨hM, _, hI, hS, hL⟩ := h
 obtain ⟨h1, h2, h3, h4, _⟩ := (memB_iff _ _ _).1 hM
 rw [memB_iff]
 refine ⟨h1, fun x hx => ?_, ?_, h4, by rw [List.length_append]; simp; omega⟩
 . rcases List.mem_append.1 hx with hx | hx
   . exact h2 x hx
   . simp at hx
     subst hx
     unfold wrB
     rw [hI, hS]
     rfl
 . rw [badB_iff] at h3 ⊢
   exact ⟨fun x hx => h3.1 x (List.mem_filter.1 hx).1, h3.2.filter _⟩

def memZ : MemD := ([], [], false, [])
def opB (x : ArrN) : Bool := !x.down && !decide (x.fuse = 0)
def opX (x : ArrN) : ArrN := if x.down = true then x else if x.fuse = 0 then {x with down := true, fuse := -1} else if 0 < x.fuse then {x with fuse := x.fuse - 1} else x
def wrM (d : MemD) (n : Int) (s : List Int) : MemD := (d.1, wrCS d.1 d.2.1 d.2.2.1 d.2.2.2 n s, d.2.2.1, wrBS d.1 d.2.1 d.2.2.1 d.2.2.2 n s)
def flM (d : MemD) : MemD := (flSS d.1 d.2.1 d.2.2.1 d.2.2.2, flCS d.1 d.2.1 d.2.2.1 d.2.2.2, d.2.2.1, d.2.2.2)
def doS (q : ArrN × List MemD) (i : Nat) (f : MemD -> MemD) : ArrN × List MemD :=
 if (q.2.getD i memZ).2.2.1 = true then q else if opB q.1 = true then (opX q.1, q.2.set i (f (q.2.getD i memZ))) else (opX q.1, q.2)
def putS (q : ArrN × List MemD) (i : Nat) (n : Int) (s : List Int) : ArrN × List MemD := doS q i fun d => wrM d n s
def syncS (q : ArrN × List MemD) (j : Nat) : ArrN × List MemD := (List.range j).foldl (fun q i => doS q i flM) q
def supA (x : ArrN) (i : Nat) : Sup := ⟨x.id, x.gen, (i : Int), x.n, x.s, x.tail, x.lost, x.built⟩
def supsS (q : ArrN × List MemD) (j : Nat) : ArrN × List MemD := (List.range j).foldl (fun q i => putS q i (q.1.gen % 2) (putD (supA q.1 i))) q
def markS (q : ArrN × List MemD) : ArrN × List MemD := syncS (supsS ({q.1 with gen := q.1.gen + 1}, q.2) q.2.length) q.2.length
def checkS (q : ArrN × List MemD) : ArrN × List MemD := if (syncS q q.2.length).1.down = true then syncS q q.2.length else markS ({(syncS q q.2.length).1 with tail := (syncS q q.2.length).1.seq}, (syncS q q.2.length).2)

def MsOk (ms : List MemD) : Prop := ∀ (i : Nat) (d : MemD), ms[i]? = some d -> memB d.1 d.2.1 d.2.2.2 = true

def SameN (x y : ArrN) : Prop := y.id = x.id /\ y.n = x.n /\ y.s = x.s /\ y.lost = x.lost /\ y.built = x.built /\ y.seq = x.seq /\ y.tail = x.tail /\ y.gen = x.gen /\ y.broken = x.broken /\ y.fuse <= 1000 /\ (-1 <= x.fuse -> -1 <= y.fuse)
theorem SameN.refl {x : ArrN} (h : x.fuse <= 1000) : SameN x x := ⟨rfl, rfl, rfl, rfl, rfl, rfl, rfl, rfl, rfl, h, fun h => h⟩
theorem SameN.trans {x y z : ArrN} (h : SameN x y) (k : SameN y z) : SameN x z := by
 obtain ⟨a1, a2, a3, a4, a5, a6, a7, a8, a9, _, b⟩ := h
 obtain ⟨c1, c2, c3, c4, c5, c6, c7, c8, c9, c10, d⟩ := k
 exact ⟨c1.trans a1, c2.trans a2, c3.trans a3, c4.trans a4, c5.trans a5, c6.trans a6, c7.trans a7, c8.trans a8, c9.trans a9, c10, fun h => d (b h)⟩
theorem opX_same {x : ArrN} (h : x.fuse <= 1000) : SameN x (opX x) := by
 unfold opX
 split
 . exact SameN.refl h
 . split
   . exact ⟨rfl, rfl, rfl, rfl, rfl, rfl, rfl, rfl, rfl, by dsimp only; omega, fun _ => by dsimp only; omega⟩
   . split
     . exact ⟨rfl, rfl, rfl, rfl, rfl, rfl, rfl, rfl, rfl, by dsimp only; omega, fun _ => by dsimp only; omega⟩
     . exact SameN.refl h
theorem getD_at {ms : List MemD} {i : Nat} {d : MemD} (h : ms[i]? = some d) : ms.getD i memZ = d := by rw [List.getD_eq_getElem?_getD, h]; rfl
theorem doS_failed {q : ArrN × List MemD} {i : Nat} {d : MemD} {f : MemD -> MemD} (h : q.2[i]? = some d) (hf : d.2.2.1 = true) : doS q i f = q := by unfold doS; rw [getD_at h, if_pos hf]
theorem doS_no {q : ArrN × List MemD} {i : Nat} {d : MemD} {f : MemD -> MemD} (h : q.2[i]? = some d) (hf : d.2.2.1 = false) (ho : opB q.1 = false) : doS q i f = (opX q.1, q.2) := by unfold doS; rw [getD_at h, if_neg (by simp [hf]), if_neg (by simp [ho])]
theorem doS_yes {q : ArrN × List MemD} {i : Nat} {d : MemD} {f : MemD -> MemD} (h : q.2[i]? = some d) (hf : d.2.2.1 = false) (ho : opB q.1 = true) : doS q i f = (opX q.1, q.2.set i (f d)) := by unfold doS; rw [getD_at h, if_neg (by simp [hf]), if_pos ho]
theorem doS_len (q : ArrN × List MemD) (i : Nat) (f : MemD -> MemD) : (doS q i f).2.length = q.2.length := by
 unfold doS
 split
 . rfl
 . split
   . exact List.length_set
   . rfl
theorem doS_same {q : ArrN × List MemD} (i : Nat) (f : MemD -> MemD) (h : q.1.fuse <= 1000) : SameN q.1 (doS q i f).1 := by
 unfold doS
 split
 . exact SameN.refl h
 . split <;> exact opX_same h
theorem MsOk.set {ms : List MemD} {i : Nat} {d : MemD} (h : MsOk ms) (hd : memB d.1 d.2.1 d.2.2.2 = true) : MsOk (ms.set i d) := by
 intro k e he
 by_cases hk : k = i
 . subst hk
   by_cases hl : k < ms.length
   . rw [List.getElem?_set_self hl] at he
     simp at he
     subst he
     exact hd
   . rw [List.getElem?_eq_none (by rw [List.length_set]; omega)] at he
     cases he
 . rw [List.getElem?_set_ne (fun e => hk e.symm)] at he
   exact h k e he
theorem doS_ok {q : ArrN × List MemD} {i : Nat} {f : MemD -> MemD} (h : MsOk q.2) (hf : ∀ d : MemD, memB d.1 d.2.1 d.2.2.2 = true -> memB (f d).1 (f d).2.1 (f d).2.2.2 = true) : MsOk (doS q i f).2 := by
 unfold doS
 split
 . exact h
 . split
   . cases hd : q.2[i]? with
     | none =>
      rw [List.set_eq_of_length_le (by rw [List.getElem?_eq_none_iff] at hd; exact hd)]
      exact h
     | some d => rw [getD_at hd]; exact h.set (hf d (h i d hd))
   . exact h
theorem wrM_ok (n : Int) (s : List Int) (d : MemD) (h : memB d.1 d.2.1 d.2.2.2 = true) : memB (wrM d n s).1 (wrM d n s).2.1 (wrM d n s).2.2.2 = true := by
 unfold wrM wrCS wrBS
 dsimp only
 by_cases hw : wrOk d.1 d.2.1 d.2.2.1 d.2.2.2 n s = true
 . rw [if_pos hw, if_pos hw]
   exact memB_write hw
 . rw [if_neg hw, if_neg hw]
   exact h
theorem flM_ok (d : MemD) (h : memB d.1 d.2.1 d.2.2.2 = true) : memB (flM d).1 (flM d).2.1 (flM d).2.2.2 = true := by
 unfold flM flSS flCS
 dsimp only
 by_cases hw : (memB d.1 d.2.1 d.2.2.2 && !d.2.2.1) = true
 . rw [if_pos hw, if_pos hw]
   exact memB_flush h d.2.1 (fun _ h => h)
 . rw [if_neg hw, if_neg hw]
   exact h
theorem putS_ok {q : ArrN × List MemD} {i : Nat} {n : Int} {s : List Int} (h : MsOk q.2) : MsOk (putS q i n s).2 := doS_ok h (wrM_ok n s)
theorem syncS_succ (q : ArrN × List MemD) (j : Nat) : syncS q (j + 1) = doS (syncS q j) j flM := by unfold syncS; rw [List.range_succ, List.foldl_append]; rfl
theorem syncS_keeps {q : ArrN × List MemD} (h : MsOk q.2) (hf : q.1.fuse <= 1000) : ∀ j, MsOk (syncS q j).2 /\ SameN q.1 (syncS q j).1 /\ (syncS q j).2.length = q.2.length
 | 0 => ⟨h, SameN.refl hf, rfl⟩
 | j + 1 => by
  obtain ⟨h1, h2, h3⟩ := syncS_keeps h hf j
  rw [syncS_succ]
  exact ⟨doS_ok h1 flM_ok, h2.trans (doS_same _ _ h2.2.2.2.2.2.2.2.2.2.1), by rw [doS_len]; exact h3⟩
theorem supsS_succ (q : ArrN × List MemD) (j : Nat) : supsS q (j + 1) = putS (supsS q j) j ((supsS q j).1.gen % 2) (putD (supA (supsS q j).1 j)) := by unfold supsS; rw [List.range_succ, List.foldl_append]; rfl
theorem supsS_keeps {q : ArrN × List MemD} (h : MsOk q.2) (hf : q.1.fuse <= 1000) : ∀ j, MsOk (supsS q j).2 /\ SameN q.1 (supsS q j).1 /\ (supsS q j).2.length = q.2.length
 | 0 => ⟨h, SameN.refl hf, rfl⟩
 | j + 1 => by
  obtain ⟨h1, h2, h3⟩ := supsS_keeps h hf j
  rw [supsS_succ]
  exact ⟨putS_ok h1, h2.trans (doS_same _ _ h2.2.2.2.2.2.2.2.2.2.1), by unfold putS; rw [doS_len]; exact h3⟩
theorem bad_ge {n : Int} {bs : List Int} (h : badB n bs = true) : ∀ i : Nat, i < bs.length -> (i : Int) <= bs.getD i 0
 | 0, hi => by
  unfold badB at h
  have := (List.all_eq_true.1 h) 0 (List.mem_range.2 hi)
  unfold badAt inB at this
  simp at this
  have e : bs.getD 0 0 = bs[0]?.getD 0 := List.getD_eq_getElem?_getD ..
  rw [e]
  omega
 | i + 1, hi => by
  have h1 := bad_ge h i (by omega)
  unfold badB at h
  have h2 := (List.all_eq_true.1 h) (i + 1) (List.mem_range.2 hi)
  unfold badAt at h2
  simp only [Bool.and_eq_true, Bool.or_eq_true, decide_eq_true_eq] at h2
  rw [Nat.add_sub_cancel] at h2
  omega
theorem bad_len {n : Int} {bs : List Int} (h : badB n bs = true) : bs = [] ∨ (bs.length : Int) <= n := by
 by_cases h0 : bs.length = 0
 . exact .inl (List.length_eq_zero_iff.1 h0)
 . right
   have h1 := bad_ge h (bs.length - 1) (by omega)
   unfold badB at h
   have h2 := (List.all_eq_true.1 h) (bs.length - 1) (List.mem_range.2 (by omega))
   unfold badAt at h2
   simp only [Bool.and_eq_true] at h2
   have h3 := inB_iff.1 h2.1
   omega
theorem memB_light {ss : List (List Int)} {cs : List (Int × List Int)} {bs : List Int} (h : memB ss cs bs = true) (f : Bool) : wtMem (ss, cs, f, bs) <= 2000 := by
 have h1 := sumL_bound (ss.map List.length) 12 (fun x hx => by
  obtain ⟨y, hy, rfl⟩ := List.mem_map.1 hx
  exact (mem_small h).1 y hy)
 have h2 := sumL_bound (cs.map fun x => x.2.length) 12 (fun x hx => by
  obtain ⟨y, hy, rfl⟩ := List.mem_map.1 hx
  exact (mem_small h).2 y hy)
 have h3 := mem_secs h
 have h5 := h
 unfold memB at h5
 simp only [Bool.and_eq_true, decide_eq_true_eq] at h5
 have h4 : cs.length <= 60 := h5.2.2.2.2
 have h6 : bs.length <= 20 := by
  rcases bad_len h5.2.2.1 with h7 | h7
  . rw [h7]; simp
  . omega
 rw [List.length_map] at h1 h2
 unfold wtMem wtIntSS wtWrS
 simp only
 omega

abbrev DOp := Nat × Option (Option (Int × List Int))
def supM (d : MemD) (u : Sup) : MemD := (d.1, wsCS d.1 d.2.1 d.2.2.1 d.2.2.2 u, d.2.2.1, wsBS d.1 d.2.1 d.2.2.1 d.2.2.2 u)
def opF (o : DOp) (x : ArrN) : MemD -> MemD :=
 match o.2 with
 | none => flM
 | some none => fun d => supM d (supA x o.1)
 | some (some p) => fun d => wrM d p.1 p.2
def runS (q : ArrN × List MemD) (ops : List DOp) : ArrN × List MemD := ops.foldl (fun q o => doS q o.1 (opF o q.1)) q

theorem opX_down {x : ArrN} (h : x.down = true) : opX x = x := by unfold opX; rw [if_pos h]
theorem opB_down {x : ArrN} (h : x.down = true) : opB x = false := by unfold opB; simp [h]
theorem opX_no {x : ArrN} (h : opB x = false) : (opX x).down = true := by
 unfold opB at h
 unfold opX
 by_cases hd : x.down = true
 . rw [if_pos hd]; exact hd
 . rw [if_neg hd]
   simp at h
   rw [if_pos (h (by simpa using hd))]
theorem opX_yes {x : ArrN} (h : opB x = true) : (opX x).down = false := by
 unfold opB at h
 simp at h
 unfold opX
 rw [if_neg (by simp [h.1]), if_neg h.2]
 split
 . exact h.1
 . exact h.1
theorem doS_down {q : ArrN × List MemD} (i : Nat) (f : MemD -> MemD) (h : q.1.down = true) : doS q i f = q := by
 unfold doS
 rw [opB_down h, opX_down h]
 split
 . rfl
 . rfl
theorem runS_down {q : ArrN × List MemD} (h : q.1.down = true) : ∀ ops : List DOp, runS q ops = q
 | [] => rfl
 | o :: ops => by
  unfold runS
  rw [List.foldl_cons, doS_down _ _ h]
  exact runS_down h ops
theorem runS_app (q : ArrN × List MemD) (a b : List DOp) : runS q (a ++ b) = runS (runS q a) b := by unfold runS; rw [List.foldl_append]
theorem runS_one (q : ArrN × List MemD) (o : DOp) : runS q [o] = doS q o.1 (opF o q.1) := rfl
theorem runS_next {q : ArrN × List MemD} {ops : List DOp} {j : Nat} {o : DOp} (h : ops[j]? = some o) : runS q (ops.take (j + 1)) = doS (runS q (ops.take j)) o.1 (opF o (runS q (ops.take j)).1) := by
 rw [List.take_add_one, h, runS_app]
 rfl
theorem runS_end {q : ArrN × List MemD} {ops : List DOp} {j : Nat} (h : (runS q (ops.take j)).1.down = true) : runS q ops = runS q (ops.take j) := by
 have := runS_app q (ops.take j) (ops.drop j)
 rw [List.take_append_drop, runS_down h] at this
 exact this
theorem supM_ok (u : Sup) (d : MemD) (h : memB d.1 d.2.1 d.2.2.2 = true) : memB (supM d u).1 (supM d u).2.1 (supM d u).2.2.2 = true := by
 unfold supM wsCS wsBS
 dsimp only
 by_cases hu : supB u = true
 . rw [if_pos hu, if_pos hu]
   exact wrM_ok (u.gen % 2) (putD u) d h
 . rw [if_neg hu, if_neg hu]
   exact h
theorem supM_put {u : Sup} (h : supB u = true) (d : MemD) : supM d u = wrM d (u.gen % 2) (putD u) := by
 unfold supM wsCS wsBS wrM
 rw [if_pos h, if_pos h]
theorem opF_ok (o : DOp) (x : ArrN) (d : MemD) (h : memB d.1 d.2.1 d.2.2.2 = true) : memB (opF o x d).1 (opF o x d).2.1 (opF o x d).2.2.2 = true := by
 obtain ⟨i, k⟩ := o
 rcases k with _ | _ | ⟨n, s⟩
 . exact flM_ok d h
 . exact supM_ok _ d h
 . exact wrM_ok n s d h
theorem opF_flag (o : DOp) (x : ArrN) (d : MemD) : (opF o x d).2.2.1 = d.2.2.1 := by
 obtain ⟨i, k⟩ := o
 rcases k with _ | _ | ⟨n, s⟩ <;> rfl
theorem runS_keeps {q : ArrN × List MemD} (h : MsOk q.2) (hf : q.1.fuse <= 1000) : ∀ ops : List DOp, MsOk (runS q ops).2 /\ SameN q.1 (runS q ops).1 /\ (runS q ops).2.length = q.2.length := by
 intro ops
 induction ops generalizing q with
 | nil => exact ⟨h, SameN.refl hf, rfl⟩
 | cons o ops ih =>
  have h1 := doS_same (q := q) o.1 (opF o q.1) hf
  obtain ⟨a, b, c⟩ := ih (q := doS q o.1 (opF o q.1)) (doS_ok h (opF_ok o q.1)) h1.2.2.2.2.2.2.2.2.2.1
  exact ⟨a, h1.trans b, c.trans (doS_len _ _ _)⟩
theorem opF_opX (o : DOp) (x : ArrN) : opF o (opX x) = opF o x := by
 obtain ⟨i, k⟩ := o
 rcases k with _ | _ | ⟨n, s⟩
 . rfl
 . have e : supA (opX x) i = supA x i := by
    unfold opX
    split
    . rfl
    . split
      . rfl
      . split <;> rfl
   show (fun d => supM d (supA (opX x) i)) = fun d => supM d (supA x i)
   rw [e]
 . rfl
def flagAt (ms : List MemD) (k : Nat) : Bool := (ms.getD k memZ).2.2.1
theorem flag_set {ms : List MemD} {i : Nat} {d : MemD} (h : d.2.2.1 = flagAt ms i) (k : Nat) : flagAt (ms.set i d) k = flagAt ms k := by
 unfold flagAt
 by_cases hk : k = i
 . subst hk
   by_cases hl : k < ms.length
   . rw [List.getD_eq_getElem?_getD, List.getElem?_set_self hl]
     exact h
   . rw [List.set_eq_of_length_le (by omega)]
 . rw [List.getD_eq_getElem?_getD, List.getD_eq_getElem?_getD, List.getElem?_set_ne (fun e => hk e.symm)]
theorem doS_flag (q : ArrN × List MemD) (i : Nat) {f : MemD -> MemD} (hf : ∀ d, (f d).2.2.1 = d.2.2.1) (k : Nat) : flagAt (doS q i f).2 k = flagAt q.2 k := by
 unfold doS
 split
 . rfl
 . split
   . exact flag_set (hf _) k
   . rfl
theorem runS_flag (q : ArrN × List MemD) (ops : List DOp) (k : Nat) : flagAt (runS q ops).2 k = flagAt q.2 k := by
 induction ops generalizing q with
 | nil => rfl
 | cons o ops ih => exact (ih (doS q o.1 (opF o q.1))).trans (doS_flag q o.1 (opF_flag o q.1) k)
def opsL (K : Nat -> DOp) (ms : List MemD) (j : Nat) : List DOp := ((List.range j).filter fun i => !flagAt ms i).map K
theorem opsL_succ (K : Nat -> DOp) (ms : List MemD) (j : Nat) : opsL K ms (j + 1) = opsL K ms j ++ (if flagAt ms j = true then [] else [K j]) := by
 unfold opsL
 rw [List.range_succ, List.filter_append, List.map_append]
 cases h : flagAt ms j <;> simp [h]
theorem opsL_len (K : Nat -> DOp) (ms : List MemD) (j : Nat) : (opsL K ms j).length <= j := by
 unfold opsL
 rw [List.length_map]
 exact Nat.le_trans (List.length_filter_le _ _) (by rw [List.length_range]; exact Nat.le_refl _)
theorem opsL_mem {K : Nat -> DOp} {ms : List MemD} {j : Nat} {o : DOp} (h : o ∈ opsL K ms j) : ∃ i, i < j /\ flagAt ms i = false /\ o = K i := by
 unfold opsL at h
 obtain ⟨i, hi, rfl⟩ := List.mem_map.1 h
 obtain ⟨h1, h2⟩ := List.mem_filter.1 hi
 exact ⟨i, List.mem_range.1 h1, by simpa using h2, rfl⟩
theorem run_list {K : Nat -> DOp} (hK : ∀ i, (K i).1 = i) (q : ArrN × List MemD) : ∀ j, runS q (opsL K q.2 j) = (List.range j).foldl (fun q i => doS q i (opF (K i) q.1)) q
 | 0 => rfl
 | j + 1 => by
  rw [opsL_succ, runS_app, List.range_succ, List.foldl_append, ← run_list hK q j]
  cases h : flagAt q.2 j
  . rw [if_neg (by simp), runS_one, hK]
    rfl
  . rw [if_pos rfl]
    have h2 : flagAt (runS q (opsL K q.2 j)).2 j = true := by rw [runS_flag]; exact h
    show runS q (opsL K q.2 j) = doS (runS q (opsL K q.2 j)) j _
    unfold flagAt at h2
    unfold doS
    rw [if_pos h2]
def flushK (i : Nat) : DOp := (i, none)
def supK (i : Nat) : DOp := (i, some none)
def wrK (n : Int) (s : List Int) (i : Nat) : DOp := (i, some (some (n, s)))
theorem run_sync (q : ArrN × List MemD) (j : Nat) : runS q (opsL flushK q.2 j) = syncS q j := run_list (fun _ => rfl) q j
theorem run_sups {q : ArrN × List MemD} (h : MsOk q.2) (hf : q.1.fuse <= 1000) (hu : ∀ i : Nat, i < q.2.length -> supB (supA q.1 i) = true) : ∀ j, j <= q.2.length -> runS q (opsL supK q.2 j) = supsS q j
 | 0, _ => rfl
 | j + 1, hj => by
  have ih := run_sups h hf hu j (by omega)
  have hs := (supsS_keeps h hf j).2.1
  rw [run_list (fun _ => rfl)] at ih ⊢
  rw [List.range_succ, List.foldl_append, ih, supsS_succ]
  have e : supA (supsS q j).1 j = supA q.1 j := by
   obtain ⟨a1, a2, a3, a4, a5, a6, a7, a8, a9, _⟩ := hs
   unfold supA
   rw [a1, a2, a3, a4, a5, a7, a8]
  have hu2 : supB (supA (supsS q j).1 j) = true := by rw [e]; exact hu j (by omega)
  show doS (supsS q j) j (fun d => supM d (supA (supsS q j).1 j)) = putS _ _ _ _
  unfold putS
  congr 1
  funext d
  exact supM_put hu2 d

def ArrIn (w : World) (lo hi : Nat) (bm bd : Option Addr) (nm cm nd cd : Nat) (ms : List MemD) (ds : List (Int × List Int)) : Prop :=
 ∃ (fm fd : List Nat), (tMemS 159 109).Mine w [.slice bm nm cm] ms fm /\ (tWrS 86).Mine w [.slice bd nd cd] ds fd /\ (∀ b ∈ fm, b ∉ fd) /\ (∀ b ∈ fm, lo <= b /\ b < hi) /\ ∀ b ∈ fd, lo <= b /\ b < hi

theorem ArrIn.below {w w' : World} {lo hi : Nat} {bm bd : Option Addr} {nm cm nd cd : Nat} {ms : List MemD} {ds : List (Int × List Int)} (h : ArrIn w lo hi bm bd nm cm nd cd ms ds) (hb : Below w.heap.size w w') : ArrIn w' lo hi bm bd nm cm nd cd ms ds := by
 obtain ⟨fm, fd, h1, h2, h3⟩ := h
 exact ⟨fm, fd, h1.below hb, h2.below hb, h3⟩
theorem ArrIn.same {w w' : World} {lo hi : Nat} {bm bd : Option Addr} {nm cm nd cd : Nat} {ms : List MemD} {ds : List (Int × List Int)} (h : ArrIn w lo hi bm bd nm cm nd cd ms ds) (hs : Same w w') : ArrIn w' lo hi bm bd nm cm nd cd ms ds := h.below (hs.below _)
theorem ArrIn.but {w w' : World} {lo hi l u : Nat} {bm bd : Option Addr} {nm cm nd cd : Nat} {ms : List MemD} {ds : List (Int × List Int)} (h : ArrIn w lo hi bm bd nm cm nd cd ms ds) (hb : But l u w w') (hd : hi <= l ∨ u <= lo) : ArrIn w' lo hi bm bd nm cm nd cd ms ds := by
 obtain ⟨fm, fd, h1, h2, h3, h4, h5⟩ := h
 exact ⟨fm, fd, h1.but hb (fun b hb' => by have := h4 b hb'; omega), h2.but hb (fun b hb' => by have := h5 b hb'; omega), h3, h4, h5⟩
theorem ArrIn.rdm {w : World} {lo hi : Nat} {bm bd : Option Addr} {nm cm nd cd : Nat} {ms : List MemD} {ds : List (Int × List Int)} (h : ArrIn w lo hi bm bd nm cm nd cd ms ds) : (tMemS 159 109).Rd w [.slice bm nm cm] ms := by
 obtain ⟨fm, fd, h1, _⟩ := h
 exact h1.rd
theorem ArrIn.rdd {w : World} {lo hi : Nat} {bm bd : Option Addr} {nm cm nd cd : Nat} {ms : List MemD} {ds : List (Int × List Int)} (h : ArrIn w lo hi bm bd nm cm nd cd ms ds) : (tWrS 86).Rd w [.slice bd nd cd] ds := by
 obtain ⟨fm, fd, _, h2, _⟩ := h
 exact h2.rd
theorem ArrIn.widen {w : World} {lo hi lo' hi' : Nat} {bm bd : Option Addr} {nm cm nd cd : Nat} {ms : List MemD} {ds : List (Int × List Int)} (h : ArrIn w lo hi bm bd nm cm nd cd ms ds) (h1 : lo' <= lo) (h2 : hi <= hi') : ArrIn w lo' hi' bm bd nm cm nd cd ms ds := by
 obtain ⟨fm, fd, a1, a2, a3, a4, a5⟩ := h
 exact ⟨fm, fd, a1, a2, a3, fun b hb => by have := a4 b hb; omega, fun b hb => by have := a5 b hb; omega⟩
theorem markArr_in (w : World) (lo hi : Nat) (x : ArrN) (bm bd : Option Addr) (nm cm nd cd : Nat) (ms : List MemD) (ds : List (Int × List Int)) (h : ArrIn w lo hi bm bd nm cm nd cd ms ds) (hhi : hi <= w.heap.size) (hw : wtArr ms ds <= 2097152) :
 Calls Tryz.prog 40 #[.agg #[.int .i64 x.id, .int .i64 x.n, .int .i64 x.s, .slice bm nm cm, .int .i64 x.lost, .int .i64 x.built, .int .i64 x.seq, .int .i64 x.tail, .int .i64 x.gen, .slice bd nd cd, .int .i64 x.fuse, .bool x.down, .bool x.broken], .int .i64 1] w fun e w' => e = .returned (.int .i64 (1 + (cntMS ms : Int) + (cntWS ds : Int))) /\ ArrIn w' lo hi bm bd nm cm nd cd (markMS 1 ms) (markW (1 + (cntMS ms : Int)) ds) /\ But lo hi w w' := by
 obtain ⟨f0, f1, h0, h1, hdis, r0, r1⟩ := h
 have hw0 : wtMemS ms <= 2097152 := by unfold wtArr at hw; omega
 have hw1 : wtWrS ds <= 2097152 := by unfold wtArr at hw; omega
 have hcm := cntMS_le ms
 have hA := new_below w (.cells #[.int .i64 x.id, .int .i64 x.n, .int .i64 x.s, .slice bm nm cm, .int .i64 x.lost, .int .i64 x.built, .int .i64 x.seq, .int .i64 x.tail, .int .i64 x.gen, .slice bd nd cd, .int .i64 x.fuse, .bool x.down, .bool x.broken] 29)
 have A := Box.new w 29 #[.int .i64 x.id, .int .i64 x.n, .int .i64 x.s, .slice bm nm cm, .int .i64 x.lost, .int .i64 x.built, .int .i64 x.seq, .int .i64 x.tail, .int .i64 x.gen, .slice bd nd cd, .int .i64 x.fuse, .bool x.down, .bool x.broken]
 obtain ⟨k0, k1, k2, k3, k4, k5, k6, k7, k8, k9, k10, k11, k12⟩ := A.cells13
 have m0 := h0.below hA
 have o1 := h1.below hA
 have zA := A.lt
 go_enter Tryz.func40, Tryz.ntmps40
 go_wp2_with fail
 generalize w.alloc (.cells #[.int .i64 x.id, .int .i64 x.n, .int .i64 x.s, .slice bm nm cm, .int .i64 x.lost, .int .i64 x.built, .int .i64 x.seq, .int .i64 x.tail, .int .i64 x.gen, .slice bd nd cd, .int .i64 x.fuse, .bool x.down, .bool x.broken] 29) = W at hA A m0 o1 zA k0 k1 k2 k3 k4 k5 k6 k7 k8 k9 k10 k11 k12 ⊢
 refine (markMemS_fp _ _ _ _ ms 1 f0 m0 hw0 (by omega) (by omega)).mono ?_
 rintro e w1 ⟨rfl, p0, t1⟩
 have hb1 := t1.but (lo := lo) (hi := hi) r0
 have m1 := o1.kept t1 (fun b hb hb' => hdis b hb' hb)
 have A1 := A.kept (hb1.block _ zA (by omega))
 have B1 := (But.of_below (lo := lo) (hi := hi) hA).trans hb1
 clear k0 k1 k2 k3 k4 k5 k6 k7 k8 k9 k10 k11 k12 A hb1 t1 m0 o1 hA
 obtain ⟨k0, k1, k2, k3, k4, k5, k6, k7, k8, k9, k10, k11, k12⟩ := A1.cells13
 have hwa : (wtMemS ms : Int) + (wtWrS ds : Int) <= 2097152 := by unfold wtArr at hw; omega
 go_wp2_with fail
 refine (markEntS_fp _ _ _ _ ds (1 + (cntMS ms : Int)) f1 m1 hw1 (by omega) (by omega)).mono ?_
 rintro e w2 ⟨rfl, p1, t2⟩
 have hb2 := t2.but (lo := lo) (hi := hi) r1
 have s0 := hidden (p0.kept t2 hdis)
 have s1 := hidden p1
 have B2 := hidden (B1.trans hb2)
 clear k0 k1 k2 k3 k4 k5 k6 k7 k8 k9 k10 k11 k12 A1 hb2 t2 p1 m1 p0 B1
 go_wp2
 go_ret
 exact ⟨rfl, ⟨f0, f1, s0.out, s1.out, hdis, r0, r1⟩, B2.out⟩

def ArrOut (w w' : World) (e : Ending) (q : ArrN × List MemD) (ds : List (Int × List Int)) : Prop :=
 ∃ (bm bd : Option Addr) (cm cd : Nat), e = .returned (.agg (arrC q.1 (.slice bm q.2.length cm) (.slice bd ds.length cd))) /\ ArrIn w' w.heap.size w'.heap.size bm bd q.2.length cm ds.length cd q.2 ds /\ Below w.heap.size w w'
theorem Moved.belowN {B N : Nat} {f1 f2 : List Nat} {w1 w2 : World} (h : Moved B f1 w1 f2 w2) (hB : N <= B) (hf : ∀ b ∈ f1, N <= b) (hN : N <= w1.heap.size) : Below N w1 w2 :=
 ⟨h.1.os, h.1.tape, h.1.output, h.1.size, fun k hk => h.1.block k (by omega) (fun hm => by
  rcases List.mem_cons.1 hm with e | hm
  . omega
  . have := hf k hm; omega)⟩
theorem arr_facts {x : ArrN} {ms : List MemD} {ds : List (Int × List Int)} (h : arrB x ms ds = true) : x.fuse <= 1000 /\ MsOk ms /\ 0 <= x.gen /\ x.gen <= 60000 := by
 unfold arrB memsB seqB6 at h
 simp only [Bool.and_eq_true, inB_iff] at h
 obtain ⟨_, _, ⟨hm, _⟩, _, _, _, _, _, hg, hf⟩ := h
 refine ⟨hf.2, fun i d hd => ?_, hg.1, hg.2⟩
 have := allIx_iff.1 hm i d hd
 unfold memAt at this
 simp only [Bool.and_eq_true] at this
 exact this.1
theorem arr_out {w w4 : World} {R lo : Nat} {y : ArrN} {ns : List MemD} {ds : List (Int × List Int)} {vm vd : Option Addr} {cvm cvd : Nat} {fm fd : List Nat} {e : Ending} {T : TypeId} {cs : Array Value} (hb : Below w.heap.size w w4) (_ : Box w4 R T cs) (he : e = .returned (.agg (arrC y (.slice vm ns.length cvm) (.slice vd ds.length cvd)))) (hm : (tMemS 159 109).Mine w4 [.slice vm ns.length cvm] ns fm) (hd : (tWrS 86).Mine w4 [.slice vd ds.length cvd] ds fd) (hr : ∀ b ∈ fm, b ∉ fd) (rm : ∀ b ∈ fm, lo <= b) (rd : ∀ b ∈ fd, lo <= b) (h1 : w.heap.size <= R) (h2 : R < lo) :
 ArrOut w (puts w4 R [(0, .int .i64 y.id), (1, .int .i64 y.n), (2, .int .i64 y.s), (3, .slice vm ns.length cvm), (4, .int .i64 y.lost), (5, .int .i64 y.built), (6, .int .i64 y.seq), (7, .int .i64 y.tail), (8, .int .i64 y.gen), (9, .slice vd ds.length cvd), (10, .int .i64 y.fuse), (11, .bool y.down), (12, .bool y.broken)]) e (y, ns) ds := by
 have hbt := puts_but R [(0, .int .i64 y.id), (1, .int .i64 y.n), (2, .int .i64 y.s), (3, .slice vm ns.length cvm), (4, .int .i64 y.lost), (5, .int .i64 y.built), (6, .int .i64 y.seq), (7, .int .i64 y.tail), (8, .int .i64 y.gen), (9, .slice vd ds.length cvd), (10, .int .i64 y.fuse), (11, .bool y.down), (12, .bool y.broken)] w4
 have hz := hbt.size
 have hlm := hm.lt
 have hld := hd.lt
 refine ⟨vm, vd, cvm, cvd, he, ⟨fm, fd, hm.but hbt (fun b hb => by have := rm b hb; omega), hd.but hbt (fun b hb => by have := rd b hb; omega), hr, fun b hb => ?_, fun b hb => ?_⟩, Below.andBut hb hbt h1⟩
 . have h3 := rm b hb
   have h4 := hlm b hb
   omega
 . have h3 := rd b hb
   have h4 := hld b hb
   omega

theorem arr_len {x : ArrN} {ms : List MemD} {ds : List (Int × List Int)} (h : arrB x ms ds = true) : 3 <= x.n /\ x.n <= 5 /\ (ms.length : Int) = x.n := by
 unfold arrB memsB at h
 simp only [Bool.and_eq_true, geoB_iff, decide_eq_true_eq] at h
 exact ⟨h.1.1, h.1.2.1, h.2.2.1.2⟩
theorem ms_light {ns : List MemD} (h : MsOk ns) (hl : ns.length <= 5) : wtMemS ns <= 10005 := by
 have h1 := sumL_bound (ns.map wtMem) 2000 (fun y hy => by
  obtain ⟨d, hd, rfl⟩ := List.mem_map.1 hy
  obtain ⟨i, hi⟩ := List.mem_iff_getElem?.1 hd
  obtain ⟨ss, cs, f, bs⟩ := d
  exact memB_light (h i _ hi) f)
 rw [List.length_map] at h1
 unfold wtMemS
 omega

theorem l7Op_any (w : World) (B : Nat) (x : ArrN) (ms : List MemD) (ds : List (Int × List Int)) (fm fd : List Nat) (h : ArrAt w B x ms ds fm fd) (hf : x.fuse <= 1000) :
 Calls Tryz.prog 134 #[.pointer (some ⟨B, 0, none⟩)] w fun e w' => e = .returned (.bool (opB x)) /\ ArrAt w' B (opX x) ms ds fm fd /\ Moved B fm w fm w' := by
 obtain ⟨bm, bd, cm, cd, X, hm, hd, hr, r1, r2⟩ := h
 unfold arrC at X
 obtain ⟨k0, k1, k2, k3, k4, k5, k6, k7, k8, k9, k10, k11, k12⟩ := X.cells13
 have fz := X.frozen
 cases hdn : x.down
 . rw [hdn] at k11
   by_cases h0 : x.fuse = 0
   . have HB : Hid (opB x = false) := by unfold Hid opB; simp [h0]
     have HX : Hid (opX x = {x with down := true, fuse := -1}) := by unfold Hid opX; rw [if_neg (by simp [hdn]), if_pos h0]
     have Y := (X.set 11 (.bool true)).set 10 (.int .i64 (-1))
     have M := hidden ((hm.setCell (g := B) (j := 11) r1 (.bool true)).setCell (g := B) (j := 10) r1 (.int .i64 (-1)))
     have D := hidden ((hd.setCell (g := B) (j := 11) r2 (.bool true)).setCell (g := B) (j := 10) r2 (.int .i64 (-1)))
     have MV := hidden ((Moved.set (B := B) (j := 11) (fm := fm) (w := w) (.bool true)).trans (Moved.set (B := B) (j := 10) (.int .i64 (-1))))
     have YH := hidden Y
     rw [h0] at k10
     clear Y X hm hd hdn h0
     go_enter Tryz.func134, Tryz.ntmps134
     go_wp2
     go_ret
     exact ⟨ret_bool HB.out.symm, by rw [HX.out]; exact ⟨bm, bd, cm, cd, YH.out, M.out, D.out, hr, r1, r2⟩, MV.out⟩
   . have e0 : (x.fuse == 0) = false := by simpa using h0
     have HB : Hid (opB x = true) := by unfold Hid opB; simp [h0, hdn]
     by_cases h1 : 0 < x.fuse
     . have hw : IntKind.i64.wrap (x.fuse - 1) = x.fuse - 1 := IntWalk.i64_in _ (by omega)
       have HX : Hid (opX x = {x with fuse := x.fuse - 1}) := by unfold Hid opX; rw [if_neg (by simp [hdn]), if_neg h0, if_pos h1]
       have YH := hidden (X.set 10 (.int .i64 (x.fuse - 1)))
       have M := hidden (hm.setCell (g := B) (j := 10) r1 (.int .i64 (x.fuse - 1)))
       have D := hidden (hd.setCell (g := B) (j := 10) r2 (.int .i64 (x.fuse - 1)))
       have MV := hidden (Moved.set (B := B) (j := 10) (fm := fm) (w := w) (.int .i64 (x.fuse - 1)))
       clear X hm hd hdn h0
       go_enter Tryz.func134, Tryz.ntmps134
       go_wp2
       go_ret
       exact ⟨ret_bool HB.out.symm, by rw [HX.out]; exact ⟨bm, bd, cm, cd, YH.out, M.out, D.out, hr, r1, r2⟩, MV.out⟩
     . have HX : Hid (opX x = x) := by unfold Hid opX; rw [if_neg (by simp [hdn]), if_neg h0, if_neg h1]
       have YH := hidden X
       clear hdn h0 X
       go_enter Tryz.func134, Tryz.ntmps134
       go_wp2
       go_ret
       exact ⟨ret_bool HB.out.symm, by rw [HX.out]; exact ⟨bm, bd, cm, cd, YH.out, hm, hd, hr, r1, r2⟩, Moved.refl _ _ _⟩
 . have HB : Hid (opB x = false) := by unfold Hid opB; simp [hdn]
   have HX : Hid (opX x = x) := by unfold Hid opX; rw [if_pos hdn]
   rw [hdn] at k11
   have YH := hidden X
   clear hdn X
   go_enter Tryz.func134, Tryz.ntmps134
   go_wp2
   go_ret
   exact ⟨ret_bool HB.out.symm, by rw [HX.out]; exact ⟨bm, bd, cm, cd, YH.out, hm, hd, hr, r1, r2⟩, Moved.refl _ _ _⟩

theorem l7Put_any (w : World) (B : Nat) (x : ArrN) (ms : List MemD) (ds : List (Int × List Int)) (fm fd : List Nat) (h : ArrAt w B x ms ds fm fd) (hf : x.fuse <= 1000) (hM : MsOk ms) (m : Nat) (hm : m < ms.length) (n : Int) (a5 : Option Addr) (n5 c5 : Nat) (sw : List Int) (f5 : List Nat) (h5 : tIntS.Mine w [.slice a5 n5 c5] sw f5) (h5B : B ∉ f5) (h5f : ∀ b ∈ f5, b ∉ fm) (hn5 : n5 <= 2097152) :
 Calls Tryz.prog 137 #[.pointer (some ⟨B, 0, none⟩), .int .i64 (m : Int), .int .i64 n, .slice a5 n5 c5] w fun e w' => e = .returned (.tuple #[]) /\ ∃ fm', ArrAt w' B (putS (x, ms) m n sw).1 (putS (x, ms) m n sw).2 ds fm' fd /\ Moved B fm w fm' w' := by
 have h00 := h
 obtain ⟨bm, bd, cm, cd, X, hmm, hdd, hr, r1, r2⟩ := h
 unfold arrC at X
 obtain ⟨g, rfl⟩ := row_head hmm (by omega)
 have hdj : ms[m]? = some (ms[m]'hm) := List.getElem?_eq_getElem hm
 generalize ms[m]'hm = d at hdj
 obtain ⟨hgl, a0, a1, a3, c0, c1, c3, ss, cs, f, bs, rfl, q0, q1, q2, q3, _, _, _⟩ := disk_at hmm hdj
 obtain ⟨k0, k1, k2, k3, k4, k5, k6, k7, k8, k9, k10, k11, k12⟩ := X.cells13
 have i1 : (0 : Int) <= (m : Int) := by omega
 have i2 : (m : Int) < (ms.length : Int) := by omega
 cases f
 . have H0 := hidden h00
   clear X hmm hdd hgl q0 q1 q3
   go_enter Tryz.func137, Tryz.ntmps137
   go_wp2_with fail
   refine (l7Op_any _ B x ms ds fm fd H0.out hf).mono ?_
   rintro e w1 ⟨rfl, hA1, hMv1⟩
   clear k0 k1 k2 k3 k4 k5 k6 k7 k8 k9 k10 k11 k12 q2 H0 h00
   cases ho : opB x
   . have HP : Hid (putS (x, ms) m n sw = (opX x, ms)) := doS_no hdj rfl ho
     go_wp2
     refine bodyPost_ret (v := .tuple #[]) (by simp [results, Tryz.results137, go_sem]) rfl ?_
     exact ⟨rfl, fm, by rw [HP.out]; exact hA1, hMv1⟩
   . have HP : Hid (putS (x, ms) m n sw = (opX x, ms.set m (wrM (ss, cs, false, bs) n sw))) := doS_yes hdj rfl ho
     obtain ⟨bm, bd, cm, cd, X, hmm, hdd, hr, r1, r2⟩ := hA1
     obtain ⟨g, rfl⟩ := row_head hmm (by omega)
     obtain ⟨hgl, a0, a1, a3, c0, c1, c3, ss, cs, f, bs, hde, q0, q1, q2, q3, p0, p1, p3⟩ := disk_at hmm hdj
     simp only [Prod.mk.injEq] at hde
     obtain ⟨rfl, rfl, rfl, rfl⟩ := hde
     have X0 := X
     unfold arrC at X0
     obtain ⟨k0, k1, k2, k3, k4, k5, k6, k7, k8, k9, k10, k11, k12⟩ := X0.cells13
     have hwt := memB_light (hM m _ hdj) false
     dsimp only at hwt
     have XH := hidden X
     have MH := hidden hmm
     have DH := hidden hdd
     have MV := hidden hMv1
     have DJ := hidden hdj
     have h51 := (hMv1.mine h5 h5B h5f).rd
     clear X X0 hmm hdd hMv1 hdj
     go_wp2_with fail
     refine (specWriteSec_any _ 159 _ _ _ _ _ _ _ _ _ _ _ _ ss cs false bs n sw p0 p1 p3 h51 (by omega) hn5).mono ?_
     rintro e w2 ⟨u0, u1, u3, rfl, o2, b2⟩
     obtain ⟨d0, l0, f0, d1, l1, f1, d3, l3, f3, hv0, hv1, hv3⟩ := mem_slices o2
     subst hv0 hv1 hv3
     have b3 := new_below w2 (.cells #[.slice d0 l0 f0, .slice d1 l1 f1, .bool false, .slice d3 l3 f3] 109)
     have b13 : Below w1.heap.size w1 (w2.alloc (.cells #[.slice d0 l0 f0, .slice d1 l1 f1, .bool false, .slice d3 l3 f3] 109)) := Below.andThen b2 b3
     have Y3 := Box.new w2 109 #[.slice d0 l0 f0, .slice d1 l1 f1, .bool false, .slice d3 l3 f3]
     have zY := Y3.lt
     have z2 := b2.size
     obtain ⟨fpx, mx, rx⟩ := (o2.below b3).mine
     obtain ⟨cOld, fz, hgm, fm9, hA9, hMv9⟩ := arr_store XH.out MH.out DH.out hr r1 r2 b13 hm mx (fun b hb => (rx b hb).1)
     obtain ⟨o0, t0⟩ := cOld 0 (by omega)
     obtain ⟨o1, t1⟩ := cOld 1 (by omega)
     obtain ⟨o2', t2⟩ := cOld 2 (by omega)
     obtain ⟨o3, t3⟩ := cOld 3 (by omega)
     rw [Nat.add_zero] at t0
     have HA := hidden hA9
     have HMV := hidden (MV.out.trans hMv9)
     have X3 := XH.out.below b13 XH.out.lt
     unfold arrC at X3
     have gB : ¬ g = B := fun e => r1 (e ▸ hgm)
     have gY : ¬ g = w2.heap.size := by omega
     obtain ⟨y0, y1, y2, y3⟩ := Y3.cells4
     have x3 := X3.cells13.2.2.2.1
     have hS : (w2.alloc (.cells #[.slice d0 l0 f0, .slice d1 l1 f1, .bool false, .slice d3 l3 f3] 109)).drew.cell? ⟨B, 3, none⟩ = some (.slice (some ⟨g, 0, none⟩) ms.length cm) /\ (w2.alloc (.cells #[.slice d0 l0 f0, .slice d1 l1 f1, .bool false, .slice d3 l3 f3] 109)).drew.cell? ⟨w2.heap.size, 0, none⟩ = some (.slice d0 l0 f0) /\ (w2.alloc (.cells #[.slice d0 l0 f0, .slice d1 l1 f1, .bool false, .slice d3 l3 f3] 109)).drew.cell? ⟨w2.heap.size, 1, none⟩ = some (.slice d1 l1 f1) /\ (w2.alloc (.cells #[.slice d0 l0 f0, .slice d1 l1 f1, .bool false, .slice d3 l3 f3] 109)).drew.cell? ⟨w2.heap.size, 2, none⟩ = some (.bool false) /\ (w2.alloc (.cells #[.slice d0 l0 f0, .slice d1 l1 f1, .bool false, .slice d3 l3 f3] 109)).drew.cell? ⟨w2.heap.size, 3, none⟩ = some (.slice d3 l3 f3) := ⟨x3, y0, y1, y2, y3⟩
     unfold put4 at HA HMV
     clear k0 k1 k2 k3 k4 k5 k6 k7 k8 k9 k10 k11 k12 q0 q1 q2 q3 p0 p1 p3 h51 o2 b2 b3 b13 Y3 mx rx cOld hA9 hMv9 X3 x3 XH MH DH MV hwt
     go_wp2_with fail
     refine Upto.start (S := fun w' => w'.cell? ⟨B, 3, none⟩ = some (.slice (some ⟨g, 0, none⟩) ms.length cm) /\ w'.cell? ⟨w2.heap.size, 0, none⟩ = some (.slice d0 l0 f0) /\ w'.cell? ⟨w2.heap.size, 1, none⟩ = some (.slice d1 l1 f1) /\ w'.cell? ⟨w2.heap.size, 2, none⟩ = some (.bool false) /\ w'.cell? ⟨w2.heap.size, 3, none⟩ = some (.slice d3 l3 f3)) (k := 7) (by kernel_rfl) ?_
     refine Upto.t 0 hS ?_
     refine Upto.t 1 hS ?_
     refine Upto.t 2 hS ?_
     refine Upto.t 3 hS ?_
     refine Upto.t 4 hS ?_
     refine Upto.t 5 hS ?_
     refine Upto.t 6 hS ?_
     refine Upto.one (i := 7) (by kernel_rfl) rfl (fun K hK => ?_)
     go_simp
     refine hK.out _ _ (fun h => absurd rfl h) ?_
     clear hK K
     refine Upto.done (by kernel_rfl) ?_ _
     clear hS y0 y1 y2 y3 t0 t1 t2 t3 fz
     go_wp2
     refine bodyPost_end (v := .tuple #[]) (results_none rfl _ _ _) rfl ?_
     exact ⟨rfl, fm9, by rw [HP.out]; exact HA.out.drew, HMV.out.drew⟩
 . have HP : Hid (putS (x, ms) m n sw = (x, ms)) := doS_failed hdj rfl
   clear X hmm hdd hgl q0 q1 q3
   go_enter Tryz.func137, Tryz.ntmps137
   go_wp2
   refine bodyPost_ret (v := .tuple #[]) (by simp [results, Tryz.results137, go_sem]) rfl ?_
   exact ⟨rfl, fm, by rw [HP.out]; exact h00, Moved.refl _ _ _⟩

theorem wr_mine_inv {w : World} {vs : List Value} {x : Int × List Int} {fp : List Nat} (h : tWr.Mine w vs x fp) : ∃ a cap, vs = [.int .i64 x.1, .slice a x.2.length cap] /\ tIntS.Mine w [.slice a x.2.length cap] x.2 fp := by
 have hl : vs.length = 2 := tWr.rdLen (tWr.owRd h.1)
 match vs, hl, h with
 | [u0, u1], _, h =>
  obtain ⟨f1, f2, hf, m1, m2, _⟩ := pair_mine (t := intTy) (u := tIntS) (vs := [u0]) (us := [u1]) rfl h
  obtain ⟨e1, e2⟩ := m1.1
  subst e2
  obtain ⟨a, cap, rfl⟩ := row_shape m2.rd
  refine ⟨a, cap, by simpa using e1, ?_⟩
  rw [hf]
  exact m2
theorem Turned.adrew {fp : List Nat} {w w' : World} (h : Turned fp w w') : Turned fp w w'.drew := ⟨h.os, h.tape, h.output, h.size, h.block⟩
theorem Ty.Mine.adrew {t : Ty} {w : World} {vs : List Value} {d : t.D} {fp : List Nat} (h : t.Mine w vs d fp) : t.Mine w.drew vs d fp := h.kept (Turned.adrew (Turned.refl [] w)) (by simp)
theorem cache_parts {w : World} {E : TypeId} {lo hi n cap : Nat} {b : Option Addr} {cs : List (Int × List Int)} (h : (tWrS E).Own w lo hi [.slice b n cap] cs) :
 ∃ (gC : Nat) (F : Nat -> List Nat), (n = 0 ∨ (b = some ⟨gC, 0, none⟩ /\ lo <= gC /\ gC < hi)) /\ (∀ i x, cs[i]? = some x -> ∃ a c, tIntS.Mine w [.slice a x.2.length c] x.2 (F i) /\ (∀ b ∈ F i, lo <= b /\ b < hi) /\ w.cell? ⟨gC, i * 2, none⟩ = some (.int .i64 x.1) /\ w.cell? ⟨gC, i * 2 + 1, none⟩ = some (.slice a x.2.length c)) /\ ∀ i j, i < j -> j < cs.length -> ∀ b ∈ F i, b ∉ F j := by
 have hl := (row_length h.rd).1
 rcases h.rowShape with h0 | ⟨g, rfl⟩
 . refine ⟨0, fun _ => [], .inl h0, fun i x hx => ?_, by simp⟩
   have := (List.getElem?_eq_some_iff.1 hx).1
   omega
 . obtain ⟨fp, m, r⟩ := h.mine
   obtain ⟨hg, F, h1, h2⟩ := row_parts m
   refine ⟨g, F, .inr ⟨rfl, r g hg⟩, fun i x hx => ?_, h2⟩
   obtain ⟨vs, m1, _, m3, m4⟩ := h1 i x hx
   obtain ⟨a, c, rfl, m5⟩ := wr_mine_inv m1
   exact ⟨a, c, m5, fun b hb => r b (m3 b hb), m4 0 (by decide), m4 1 (by decide)⟩

theorem specFlushMem_any (w : World) (E : TypeId) (a0 a1 a3 : Option Addr) (n0 c0 n1 c1 n3 c3 : Nat) (ss : List (List Int)) (cs : List (Int × List Int)) (f : Bool) (bs : List Int) (h0 : tIntSS.Rd w [.slice a0 n0 c0] ss) (h1 : (tWrS E).Rd w [.slice a1 n1 c1] cs) (h3 : tIntS.Rd w [.slice a3 n3 c3] bs) (hw : wtMem (ss, cs, f, bs) <= 2097152) :
 Calls Tryz.prog 135 #[.agg #[.slice a0 n0 c0, .slice a1 n1 c1, .bool f, .slice a3 n3 c3]] w fun e w' => ∃ v0 v1 v3, e = .returned (.agg #[v0, v1, .bool f, v3]) /\ (tMem 159).Own w' w.heap.size w'.heap.size [v0, v1, .bool f, v3] (flSS ss cs f bs, flCS ss cs f bs, f, bs) /\ Below w.heap.size w w' := by
 obtain ⟨hl0, _, hm0⟩ := row_length h0
 obtain ⟨hl1, _, hm1⟩ := row_length h1
 obtain ⟨hl3, _, hm3⟩ := row_length h3
 have hwc : wtWrS cs <= 2097152 := by unfold wtMem at hw; simp only at hw; omega
 by_cases hM : memB ss cs bs = true
 . have hn20 : n0 <= 20 := by have := mem_secs hM; omega
   have hks := mem_writes hM
   by_cases hf : f = true
   . subst hf
     have e1 : flSS ss cs true bs = ss := by unfold flSS; simp
     have e2 : flCS ss cs true bs = cs := by unfold flCS; simp
     rw [e1, e2]
     clear e1 e2
     have hA : Below w.heap.size w ((w.alloc (.cells #[.slice a0 n0 c0, .slice a1 n1 c1, .bool true, .slice a3 n3 c3] 109)).alloc (.cells #[.slice none 0 0, .slice none 0 0, .bool false, .slice none 0 0] 109)) := ((Below.refl _ _).alloc (Nat.le_refl _) _).alloc (by simp) _
     have xm : Box ((w.alloc (.cells #[.slice a0 n0 c0, .slice a1 n1 c1, .bool true, .slice a3 n3 c3] 109)).alloc (.cells #[.slice none 0 0, .slice none 0 0, .bool false, .slice none 0 0] 109)) w.heap.size 109 #[.slice a0 n0 c0, .slice a1 n1 c1, .bool true, .slice a3 n3 c3] := (Box.new w _ _).alloc _
     have xr : Box ((w.alloc (.cells #[.slice a0 n0 c0, .slice a1 n1 c1, .bool true, .slice a3 n3 c3] 109)).alloc (.cells #[.slice none 0 0, .slice none 0 0, .bool false, .slice none 0 0] 109)) (w.heap.size + 1) 109 #[.slice none 0 0, .slice none 0 0, .bool false, .slice none 0 0] := by
      have := Box.new (w.alloc (.cells #[.slice a0 n0 c0, .slice a1 n1 c1, .bool true, .slice a3 n3 c3] 109)) 109 #[.slice none 0 0, .slice none 0 0, .bool false, .slice none 0 0]
      rw [show (w.alloc (.cells #[.slice a0 n0 c0, .slice a1 n1 c1, .bool true, .slice a3 n3 c3] 109)).heap.size = w.heap.size + 1 by simp] at this
      exact this
     go_enter Tryz.func135, Tryz.ntmps135
     go_wp2_with fail
     generalize hW : (w.alloc (.cells #[.slice a0 n0 c0, .slice a1 n1 c1, .bool true, .slice a3 n3 c3] 109)).alloc (.cells #[.slice none 0 0, .slice none 0 0, .bool false, .slice none 0 0] 109) = W at hA xm xr ⊢
     clear hW
     have zr := xr.lt
     obtain ⟨q0, q1, q2, q3⟩ := xm.cells4
     have XM := hidden xm
     have XR := hidden xr
     clear xm xr
     refine (l2Copy_any _ E _ _ _ _ _ _ _ _ _ ss cs true bs (h0.below hA) (h1.below hA) (h3.below hA) hw).mono ?_
     intro e w1 hc
     obtain ⟨b0, b1, b3, e0, e1, e3, m1, m2, rfl, o3, o0, o1, r1, r2, r3, bb⟩ := copy_shapes hl0 hl1 hl3 hc
     clear hc
     have z1 := bb.size
     have sW : w.heap.size + 2 <= W.heap.size := by omega
     have ba : Below w1.heap.size w1 (w1.alloc (.cells #[.slice b0 n0 e0, .slice b1 n1 e1, .bool true, .slice b3 n3 e3] 109)) := (Below.refl _ _).alloc (Nat.le_refl _) _
     have yo := Box.new w1 109 #[.slice b0 n0 e0, .slice b1 n1 e1, .bool true, .slice b3 n3 e3]
     have zo := yo.lt
     have YO := hidden yo
     have YR := hidden ((XR.out.below bb zr).below ba (by omega))
     have YM := hidden ((XM.out.below bb (by omega)).below ba (by omega))
     have K0 := hidden (o0.below ba)
     have K1 := hidden (o1.below ba)
     have K3 := hidden (o3.below ba)
     have KB := hidden (hA.trans ((bb.mono (by omega : w.heap.size <= W.heap.size)).trans (ba.mono (by omega))))
     clear yo o0 o1 o3 XM XR bb ba hA q0 q1 q2 q3
     obtain ⟨q0, q1, q2, q3⟩ := YM.out.cells4
     go_wp2_with fail
     generalize w1.alloc (.cells #[.slice b0 n0 e0, .slice b1 n1 e1, .bool true, .slice b3 n3 e3] 109) = w2 at YO YR YM K0 K1 K3 KB zo q0 q1 q2 q3 ⊢
     refine (specMemOk_any _ E _ _ _ _ _ _ _ _ _ ss cs true bs (h0.below KB.out) (h1.below KB.out) (h3.below KB.out) hw).mono ?_
     rintro e w3 ⟨rfl, b4⟩
     have z3 := b4.size
     have XO := hidden (YO.out.below b4 (by omega))
     have XR := hidden (YR.out.below b4 (by omega))
     have XM := hidden (YM.out.below b4 (by omega))
     have L0 := hidden (K0.out.below b4)
     have L1 := hidden (K1.out.below b4)
     have L3 := hidden (K3.out.below b4)
     have LB := hidden (KB.out.trans (b4.mono (by have := KB.out.size; omega)))
     clear YO YR YM K0 K1 K3 KB b4 q0 q1 q2 q3
     obtain ⟨q0, q1, q2, q3⟩ := XM.out.cells4
     obtain ⟨x0, x1, x2, x3⟩ := XO.out.cells4
     obtain ⟨p0, p1, p2, p3⟩ := XR.out.cells4
     have fz := XR.out.frozen
     have hbt : But (w.heap.size + 1) (w.heap.size + 2) w3 ((((w3.setCell ⟨w.heap.size + 1, 0, none⟩ (.slice b0 n0 e0)).setCell ⟨w.heap.size + 1, 1, none⟩ (.slice b1 n1 e1)).setCell ⟨w.heap.size + 1, 2, none⟩ (.bool true)).setCell ⟨w.heap.size + 1, 3, none⟩ (.slice b3 n3 e3)) :=
      (((But.setCell (by omega) (by omega) _).trans (But.setCell (by omega) (by omega) _)).trans (But.setCell (by omega) (by omega) _)).trans (But.setCell (by omega) (by omega) _)
     have z9 := hbt.size
     have FIN : Hid ((tMem 159).Own ((((w3.setCell ⟨w.heap.size + 1, 0, none⟩ (.slice b0 n0 e0)).setCell ⟨w.heap.size + 1, 1, none⟩ (.slice b1 n1 e1)).setCell ⟨w.heap.size + 1, 2, none⟩ (.bool true)).setCell ⟨w.heap.size + 1, 3, none⟩ (.slice b3 n3 e3)) w.heap.size ((((w3.setCell ⟨w.heap.size + 1, 0, none⟩ (.slice b0 n0 e0)).setCell ⟨w.heap.size + 1, 1, none⟩ (.slice b1 n1 e1)).setCell ⟨w.heap.size + 1, 2, none⟩ (.bool true)).setCell ⟨w.heap.size + 1, 3, none⟩ (.slice b3 n3 e3)).heap.size [.slice b0 n0 e0, .slice b1 n1 e1, .bool true, .slice b3 n3 e3] (ss, cs, true, bs)) := mem_own3 (L0.out.but hbt (by omega)) (L1.out.but hbt (by omega)) (L3.out.but hbt (by omega)) (by omega) (by omega) (by omega) (by omega) (by omega) (by omega)
     have FB := hidden (Below.andBut LB.out hbt (by omega))
     clear hbt
     go_wp2
     refine bodyPost_ret (v := .agg #[.slice b0 n0 e0, .slice b1 n1 e1, .bool true, .slice b3 n3 e3]) (by simp [results, Tryz.results135, go_sem, p0, p1, p2, p3]) rfl ?_
     exact ⟨_, _, _, rfl, FIN.out, FB.out⟩
   . have hf : f = false := by simpa using hf
     subst hf
     have e1 : flSS ss cs false bs = flushD ss cs := by unfold flSS; simp [hM]
     have e2 : flCS ss cs false bs = [] := by unfold flCS; simp [hM]
     rw [e1, e2]
     clear e1 e2
     have hA : Below w.heap.size w ((w.alloc (.cells #[.slice a0 n0 c0, .slice a1 n1 c1, .bool false, .slice a3 n3 c3] 109)).alloc (.cells #[.slice none 0 0, .slice none 0 0, .bool false, .slice none 0 0] 109)) := ((Below.refl _ _).alloc (Nat.le_refl _) _).alloc (by simp) _
     have xm : Box ((w.alloc (.cells #[.slice a0 n0 c0, .slice a1 n1 c1, .bool false, .slice a3 n3 c3] 109)).alloc (.cells #[.slice none 0 0, .slice none 0 0, .bool false, .slice none 0 0] 109)) w.heap.size 109 #[.slice a0 n0 c0, .slice a1 n1 c1, .bool false, .slice a3 n3 c3] := (Box.new w _ _).alloc _
     have xr : Box ((w.alloc (.cells #[.slice a0 n0 c0, .slice a1 n1 c1, .bool false, .slice a3 n3 c3] 109)).alloc (.cells #[.slice none 0 0, .slice none 0 0, .bool false, .slice none 0 0] 109)) (w.heap.size + 1) 109 #[.slice none 0 0, .slice none 0 0, .bool false, .slice none 0 0] := by
      have := Box.new (w.alloc (.cells #[.slice a0 n0 c0, .slice a1 n1 c1, .bool false, .slice a3 n3 c3] 109)) 109 #[.slice none 0 0, .slice none 0 0, .bool false, .slice none 0 0]
      rw [show (w.alloc (.cells #[.slice a0 n0 c0, .slice a1 n1 c1, .bool false, .slice a3 n3 c3] 109)).heap.size = w.heap.size + 1 by simp] at this
      exact this
     go_enter Tryz.func135, Tryz.ntmps135
     go_wp2_with fail
     generalize hW : (w.alloc (.cells #[.slice a0 n0 c0, .slice a1 n1 c1, .bool false, .slice a3 n3 c3] 109)).alloc (.cells #[.slice none 0 0, .slice none 0 0, .bool false, .slice none 0 0] 109) = W at hA xm xr ⊢
     clear hW
     have zr := xr.lt
     obtain ⟨q0, q1, q2, q3⟩ := xm.cells4
     have XM := hidden xm
     have XR := hidden xr
     clear xm xr
     refine (l2Copy_any _ E _ _ _ _ _ _ _ _ _ ss cs false bs (h0.below hA) (h1.below hA) (h3.below hA) hw).mono ?_
     intro e w1 hc
     obtain ⟨b0, b1, b3, e0, e1, e3, m1, m2, rfl, o3, o0, o1, r1, r2, r3, bb⟩ := copy_shapes hl0 hl1 hl3 hc
     clear hc
     have z1 := bb.size
     have sW : w.heap.size + 2 <= W.heap.size := by omega
     have ba : Below w1.heap.size w1 (w1.alloc (.cells #[.slice b0 n0 e0, .slice b1 n1 e1, .bool false, .slice b3 n3 e3] 109)) := (Below.refl _ _).alloc (Nat.le_refl _) _
     have yo := Box.new w1 109 #[.slice b0 n0 e0, .slice b1 n1 e1, .bool false, .slice b3 n3 e3]
     have zo := yo.lt
     have YO := hidden yo
     have YR := hidden ((XR.out.below bb zr).below ba (by omega))
     have YM := hidden ((XM.out.below bb (by omega)).below ba (by omega))
     have K0 := hidden (o0.below ba)
     have K1 := hidden (o1.below ba)
     have K3 := hidden (o3.below ba)
     have KB := hidden (hA.trans ((bb.mono (by omega : w.heap.size <= W.heap.size)).trans (ba.mono (by omega))))
     clear yo o0 o1 o3 XM XR bb ba hA q0 q1 q2 q3
     obtain ⟨q0, q1, q2, q3⟩ := YM.out.cells4
     go_wp2_with fail
     generalize w1.alloc (.cells #[.slice b0 n0 e0, .slice b1 n1 e1, .bool false, .slice b3 n3 e3] 109) = w2 at YO YR YM K0 K1 K3 KB zo q0 q1 q2 q3 ⊢
     refine (specMemOk_any _ E _ _ _ _ _ _ _ _ _ ss cs false bs (h0.below KB.out) (h1.below KB.out) (h3.below KB.out) hw).mono ?_
     rintro e w3 ⟨rfl, b4⟩
     have z3 := b4.size
     have XO := hidden (YO.out.below b4 (by omega))
     have XR := hidden (YR.out.below b4 (by omega))
     have XM := hidden (YM.out.below b4 (by omega))
     have L0 := hidden (K0.out.below b4)
     have L1 := hidden (K1.out.below b4)
     have L3 := hidden (K3.out.below b4)
     have LB := hidden (KB.out.trans (b4.mono (by have := KB.out.size; omega)))
     clear YO YR YM K0 K1 K3 KB b4 q0 q1 q2 q3
     obtain ⟨q0, q1, q2, q3⟩ := XM.out.cells4
     obtain ⟨x0, x1, x2, x3⟩ := XO.out.cells4
     have hn1' : 0 < n0 := by have := mem_some hM; omega
     obtain ⟨gS, hb0⟩ : ∃ gS, b0 = some ⟨gS, 0, none⟩ := by
      rcases L0.out.rowShape with h | ⟨g, h⟩
      . omega
      . exact ⟨g, h⟩
     subst hb0
     obtain ⟨fpS0, mS0, rS0⟩ := L0.out.mine
     have hgS := rS0 gS (row_parts mS0).1
     obtain ⟨gC, FC, hC0, hC1, hC2⟩ := cache_parts L1.out
     have MS0 := hidden mS0
     have RS0 := hidden rS0
     have HC1 := hidden hC1
     have HC2 := hidden hC2
     clear mS0 rS0 hC1 hC2
     go_wp2
     clear x0 x1 x2 x3
     go_loopw [4] (fun i wr => ∃ (j : Nat) (fpS : List Nat), j <= n1 /\ i = .int .i64 j /\ Turned [gS] w3 wr /\ tIntSS.Mine wr [.slice (some ⟨gS, 0, none⟩) n0 e0] (flushD ss (cs.take j)) fpS /\ (∀ b ∈ fpS, (m1 <= b /\ b < m2) ∨ ∃ i, i < j /\ b ∈ FC i)) (fun i _ => n1 - (intOf i).toNat)
     case atStart => exact ⟨0, fpS0, Nat.zero_le _, rfl, Turned.refl _ _, by rw [List.take_zero, flushD_nil]; exact MS0.out, fun b hb => .inl (RS0.out b hb)⟩
     case round =>
      obtain ⟨j, fpS, hj, rfl, tn, hS, hfp⟩ := hrel
      have hs := tn.size
      have xo := XO.out.turned tn (by simp; omega)
      obtain ⟨y0, y1, y2, y3⟩ := xo.cells4
      by_cases hjn : j < n1
      . have k1 : (0 : Int) <= (j : Int) := by omega
        have k2 : (j : Int) < (n1 : Int) := by omega
        rcases hC0 with hC0 | ⟨rfl, hC3, hC4⟩
        . omega
        have hdj : cs[j]? = some (cs[j]'(by omega)) := List.getElem?_eq_getElem (by omega)
        have htk : cs.take (j + 1) = cs.take j ++ [cs[j]'(by omega)] := List.take_succ_eq_append_getElem (by omega)
        have hmem : cs[j]'(by omega) ∈ cs := List.getElem_mem _
        generalize cs[j]'(by omega) = x at hdj htk hmem
        obtain ⟨q, hq, hql⟩ := mem_writes_lt hM x hmem
        obtain ⟨av, cv, mx, rx, cv0, cv1⟩ := HC1.out j x hdj
        obtain ⟨x0, x1⟩ := x
        simp only at hq mx rx cv0 cv1
        subst hq
        have ncs : gC ≠ gS := by omega
        have d0 := (cell_kept (tn.block gC (by omega) (by simp; omega)) (j * 2)).trans cv0
        have d1 := (cell_kept (tn.block gC (by omega) (by simp; omega)) (j * 2 + 1)).trans cv1
        have mr := mx.kept tn (fun b hb hb' => by have := rx b hb; simp at hb'; omega)
        obtain ⟨⟨old, cOld⟩, fz, hgm, fpA, mA, rA⟩ := row_set1 (j := q) rfl hS (by omega) mr (fun b hb hb' => by
         have h1 := rx b hb
         rcases hfp b hb' with h2 | ⟨i, h2, h3⟩
         . omega
         . exact HC2.out i j h2 (by omega) b h3 hb)
        have hfA : ∀ b ∈ fpA, (m1 <= b /\ b < m2) ∨ ∃ i, i < j + 1 /\ b ∈ FC i := fun b hb => by
         rcases rA b hb with h | h
         . rcases hfp b h with h2 | ⟨i, h2, h3⟩
           . exact .inl h2
           . exact .inr ⟨i, by omega, h3⟩
         . exact .inr ⟨j, by omega, h⟩
        have k3 : (0 : Int) <= (q : Int) := by omega
        have k4 : (q : Int) < (n0 : Int) := by omega
        have HTK := hidden htk
        have HFA := hidden hfA
        have MA := hidden mA
        have TA := hidden (tn.trans (Turned.setCell (w := wr) (g := gS) (j := q) (.slice av x1.length cv) (List.mem_cons_self : gS ∈ [gS])))
        have XOR := hidden xo
        have nO : Hid (w1.heap.size ≠ gS) := by unfold Hid; omega
        have nC : Hid (gC ≠ gS) := ncs
        have hT : Hid (wr.cell? ⟨gC, j * 2, none⟩ = some (.int .i64 (q : Int)) /\ wr.cell? ⟨gC, j * 2 + 1, none⟩ = some (.slice av x1.length cv)) := ⟨d0, d1⟩
        clear hdj htk hmem mx rx cv0 cv1 mr hfA mA rA tn hS hfp xo hgm ncs
        go_wp2_with fail
        go_region_held3 (fun w' => w'.cell? ⟨w1.heap.size, 0, none⟩ = some (.slice (some ⟨gS, 0, none⟩) n0 e0) /\ w'.cell? ⟨w1.heap.size, 1, none⟩ = some (.slice (some ⟨gC, 0, none⟩) n1 e1) /\ w'.cell? ⟨gC, j * 2, none⟩ = some (.int .i64 (q : Int)) /\ w'.cell? ⟨gC, j * 2 + 1, none⟩ = some (.slice av x1.length cv))
         (first | (exact ⟨y0, y1, d0, d1⟩) | (exact ⟨(XOR.out.other nO.out q (.slice av x1.length cv)).cell 0, (XOR.out.other nO.out q (.slice av x1.length cv)).cell 1, (cell_kept (Below.heap_setCell _ _ _ _ nC.out) _).trans d0, (cell_kept (Below.heap_setCell _ _ _ _ nC.out) _).trans d1⟩) | go_keep)
         (fail)
        clear d0 d1 y0 y1 y2 y3 cOld fz XOR nO nC hT
        go_wp2
        go_roundw
        case rel => exact ⟨j + 1, fpA, by omega, by go_num, Turned.adrew TA.out, by rw [HTK.out, flushD_snoc (by omega)]; exact Ty.Mine.adrew MA.out, HFA.out⟩
        case measure => simp [intOf]; omega
      . have e : n1 = j := by omega
        subst e
        rw [List.take_of_length_le (by omega)] at hS
        have yo := xo.alloc (.cells #[] 159)
        have ys := yo.set 1 (.slice (some ⟨wr.heap.size, 0, none⟩) 0 0)
        have yt := ((XR.out.turned tn (by simp; omega)).alloc (.cells #[] 159)).other (g := w1.heap.size) (by omega) 1 (.slice (some ⟨wr.heap.size, 0, none⟩) 0 0)
        obtain ⟨s0, s1, s2, s3⟩ := yo.cells4
        have fo := yo.frozen 1
        obtain ⟨t0, t1, t2, t3⟩ := Box.cells4 (v0 := .slice (some ⟨gS, 0, none⟩) n0 e0) (v1 := (.slice (some ⟨wr.heap.size, 0, none⟩) 0 0)) (v2 := .bool false) (v3 := .slice b3 n3 e3) ys
        obtain ⟨p0, p1, p2, p3⟩ := yt.cells4
        have fz := yt.frozen
        have zl : (wr.alloc (.cells #[] 159)).heap.size = wr.heap.size + 1 := by simp
        have ZL := hidden zl
        have bo := But.setCell (lo := w1.heap.size) (hi := w1.heap.size + 1) (g := w1.heap.size) (j := 1) (w := (wr.alloc (.cells #[] 159))) (Nat.le_refl _) (Nat.lt_succ_self _) (.slice (some ⟨wr.heap.size, 0, none⟩) 0 0)
        have bl : Below wr.heap.size wr (wr.alloc (.cells #[] 159)) := (Below.refl _ _).alloc (Nat.le_refl _) _
        have kl := ((lit0_mine (t := tWr) (E := 159) wr).own (lo := wr.heap.size) (hi := wr.heap.size + 1) (fun b hb => by simp at hb; omega)).but bo (.inr (by omega))
        have k0 := ((hS.own (lo := m1) (hi := w1.heap.size) (fun b hb => by
         rcases hfp b hb with h | ⟨i, h2, h3⟩
         . omega
         . by_cases hin : i < n1
           . obtain ⟨_, _, _, r, _⟩ := HC1.out i _ (List.getElem?_eq_getElem (by omega))
             have := r b h3
             omega
           . omega)).below bl).but bo (.inl (Nat.le_refl _))
        have k3 := ((L3.out.but (tn.but (lo := m1) (hi := m2) (by simp; omega)) (.inl (Nat.le_refl _))).below bl).but bo (.inl (by omega))
        have kb : Below w.heap.size w ((wr.alloc (.cells #[] 159)).setCell ⟨w1.heap.size, 1, none⟩ (.slice (some ⟨wr.heap.size, 0, none⟩) 0 0)) := LB.out.trans ((tn.below (N := w.heap.size) (by omega) (by simp; omega)).trans ((bl.mono (by omega)).trans (bo.below (by omega) (by omega))))
        have zs := bo.size
        clear zl bo bl hS tn hfp xo yo ys yt q0 q1 q2 q3 XM hC0 HC1 HC2 MS0 RS0
        go_wp2
        generalize ((wr.alloc (.cells #[] 159)).setCell ⟨w1.heap.size, 1, none⟩ (.slice (some ⟨wr.heap.size, 0, none⟩) 0 0)) = wz at t0 t1 t2 t3 p0 p1 p2 p3 fz kl k0 k3 kb zs ⊢
        have zL := ZL.out
        have hbt : But (w.heap.size + 1) (w.heap.size + 2) wz ((((wz.setCell ⟨w.heap.size + 1, 0, none⟩ (.slice (some ⟨gS, 0, none⟩) n0 e0)).setCell ⟨w.heap.size + 1, 1, none⟩ (.slice (some ⟨wr.heap.size, 0, none⟩) 0 0)).setCell ⟨w.heap.size + 1, 2, none⟩ (.bool false)).setCell ⟨w.heap.size + 1, 3, none⟩ (.slice b3 n3 e3)) :=
         (((But.setCell (by omega) (by omega) _).trans (But.setCell (by omega) (by omega) _)).trans (But.setCell (by omega) (by omega) _)).trans (But.setCell (by omega) (by omega) _)
        have z9 := hbt.size
        refine bodyPost_ret (v := .agg #[.slice (some ⟨gS, 0, none⟩) n0 e0, (.slice (some ⟨wr.heap.size, 0, none⟩) 0 0), .bool false, .slice b3 n3 e3]) (by simp [results, Tryz.results135, go_sem, p0, p1, p2, p3]) rfl ?_
        exact ⟨_, _, _, rfl, mem_own3 (k0.but hbt (by omega)) (kl.but hbt (by omega)) (k3.but hbt (by omega)) (by omega) (by omega) (by omega) (by omega) (by omega) (by omega), Below.andBut kb hbt (by omega)⟩
 . have hM : memB ss cs bs = false := by simpa using hM
   have e1 : flSS ss cs f bs = ss := by unfold flSS; simp [hM]
   have e2 : flCS ss cs f bs = cs := by unfold flCS; simp [hM]
   rw [e1, e2]
   clear e1 e2
   have hA : Below w.heap.size w ((w.alloc (.cells #[.slice a0 n0 c0, .slice a1 n1 c1, .bool f, .slice a3 n3 c3] 109)).alloc (.cells #[.slice none 0 0, .slice none 0 0, .bool false, .slice none 0 0] 109)) := ((Below.refl _ _).alloc (Nat.le_refl _) _).alloc (by simp) _
   have xm : Box ((w.alloc (.cells #[.slice a0 n0 c0, .slice a1 n1 c1, .bool f, .slice a3 n3 c3] 109)).alloc (.cells #[.slice none 0 0, .slice none 0 0, .bool false, .slice none 0 0] 109)) w.heap.size 109 #[.slice a0 n0 c0, .slice a1 n1 c1, .bool f, .slice a3 n3 c3] := (Box.new w _ _).alloc _
   have xr : Box ((w.alloc (.cells #[.slice a0 n0 c0, .slice a1 n1 c1, .bool f, .slice a3 n3 c3] 109)).alloc (.cells #[.slice none 0 0, .slice none 0 0, .bool false, .slice none 0 0] 109)) (w.heap.size + 1) 109 #[.slice none 0 0, .slice none 0 0, .bool false, .slice none 0 0] := by
    have := Box.new (w.alloc (.cells #[.slice a0 n0 c0, .slice a1 n1 c1, .bool f, .slice a3 n3 c3] 109)) 109 #[.slice none 0 0, .slice none 0 0, .bool false, .slice none 0 0]
    rw [show (w.alloc (.cells #[.slice a0 n0 c0, .slice a1 n1 c1, .bool f, .slice a3 n3 c3] 109)).heap.size = w.heap.size + 1 by simp] at this
    exact this
   go_enter Tryz.func135, Tryz.ntmps135
   go_wp2_with fail
   generalize hW : (w.alloc (.cells #[.slice a0 n0 c0, .slice a1 n1 c1, .bool f, .slice a3 n3 c3] 109)).alloc (.cells #[.slice none 0 0, .slice none 0 0, .bool false, .slice none 0 0] 109) = W at hA xm xr ⊢
   clear hW
   have zr := xr.lt
   obtain ⟨q0, q1, q2, q3⟩ := xm.cells4
   have XM := hidden xm
   have XR := hidden xr
   clear xm xr
   refine (l2Copy_any _ E _ _ _ _ _ _ _ _ _ ss cs f bs (h0.below hA) (h1.below hA) (h3.below hA) hw).mono ?_
   intro e w1 hc
   obtain ⟨b0, b1, b3, e0, e1, e3, m1, m2, rfl, o3, o0, o1, r1, r2, r3, bb⟩ := copy_shapes hl0 hl1 hl3 hc
   clear hc
   have z1 := bb.size
   have sW : w.heap.size + 2 <= W.heap.size := by omega
   have ba : Below w1.heap.size w1 (w1.alloc (.cells #[.slice b0 n0 e0, .slice b1 n1 e1, .bool f, .slice b3 n3 e3] 109)) := (Below.refl _ _).alloc (Nat.le_refl _) _
   have yo := Box.new w1 109 #[.slice b0 n0 e0, .slice b1 n1 e1, .bool f, .slice b3 n3 e3]
   have zo := yo.lt
   have YO := hidden yo
   have YR := hidden ((XR.out.below bb zr).below ba (by omega))
   have YM := hidden ((XM.out.below bb (by omega)).below ba (by omega))
   have K0 := hidden (o0.below ba)
   have K1 := hidden (o1.below ba)
   have K3 := hidden (o3.below ba)
   have KB := hidden (hA.trans ((bb.mono (by omega : w.heap.size <= W.heap.size)).trans (ba.mono (by omega))))
   clear yo o0 o1 o3 XM XR bb ba hA q0 q1 q2 q3
   obtain ⟨q0, q1, q2, q3⟩ := YM.out.cells4
   go_wp2_with fail
   generalize w1.alloc (.cells #[.slice b0 n0 e0, .slice b1 n1 e1, .bool f, .slice b3 n3 e3] 109) = w2 at YO YR YM K0 K1 K3 KB zo q0 q1 q2 q3 ⊢
   refine (specMemOk_any _ E _ _ _ _ _ _ _ _ _ ss cs f bs (h0.below KB.out) (h1.below KB.out) (h3.below KB.out) hw).mono ?_
   rintro e w3 ⟨rfl, b4⟩
   have z3 := b4.size
   have XO := hidden (YO.out.below b4 (by omega))
   have XR := hidden (YR.out.below b4 (by omega))
   have XM := hidden (YM.out.below b4 (by omega))
   have L0 := hidden (K0.out.below b4)
   have L1 := hidden (K1.out.below b4)
   have L3 := hidden (K3.out.below b4)
   have LB := hidden (KB.out.trans (b4.mono (by have := KB.out.size; omega)))
   clear YO YR YM K0 K1 K3 KB b4 q0 q1 q2 q3
   obtain ⟨q0, q1, q2, q3⟩ := XM.out.cells4
   obtain ⟨x0, x1, x2, x3⟩ := XO.out.cells4
   obtain ⟨p0, p1, p2, p3⟩ := XR.out.cells4
   have fz := XR.out.frozen
   have hbt : But (w.heap.size + 1) (w.heap.size + 2) w3 ((((w3.setCell ⟨w.heap.size + 1, 0, none⟩ (.slice b0 n0 e0)).setCell ⟨w.heap.size + 1, 1, none⟩ (.slice b1 n1 e1)).setCell ⟨w.heap.size + 1, 2, none⟩ (.bool f)).setCell ⟨w.heap.size + 1, 3, none⟩ (.slice b3 n3 e3)) :=
    (((But.setCell (by omega) (by omega) _).trans (But.setCell (by omega) (by omega) _)).trans (But.setCell (by omega) (by omega) _)).trans (But.setCell (by omega) (by omega) _)
   have z9 := hbt.size
   have FIN : Hid ((tMem 159).Own ((((w3.setCell ⟨w.heap.size + 1, 0, none⟩ (.slice b0 n0 e0)).setCell ⟨w.heap.size + 1, 1, none⟩ (.slice b1 n1 e1)).setCell ⟨w.heap.size + 1, 2, none⟩ (.bool f)).setCell ⟨w.heap.size + 1, 3, none⟩ (.slice b3 n3 e3)) w.heap.size ((((w3.setCell ⟨w.heap.size + 1, 0, none⟩ (.slice b0 n0 e0)).setCell ⟨w.heap.size + 1, 1, none⟩ (.slice b1 n1 e1)).setCell ⟨w.heap.size + 1, 2, none⟩ (.bool f)).setCell ⟨w.heap.size + 1, 3, none⟩ (.slice b3 n3 e3)).heap.size [.slice b0 n0 e0, .slice b1 n1 e1, .bool f, .slice b3 n3 e3] (ss, cs, f, bs)) := mem_own3 (L0.out.but hbt (by omega)) (L1.out.but hbt (by omega)) (L3.out.but hbt (by omega)) (by omega) (by omega) (by omega) (by omega) (by omega) (by omega)
   have FB := hidden (Below.andBut LB.out hbt (by omega))
   clear hbt
   go_wp2
   refine bodyPost_ret (v := .agg #[.slice b0 n0 e0, .slice b1 n1 e1, .bool f, .slice b3 n3 e3]) (by simp [results, Tryz.results135, go_sem, p0, p1, p2, p3]) rfl ?_
   exact ⟨_, _, _, rfl, FIN.out, FB.out⟩

theorem l7Sync_any (w : World) (B : Nat) (x : ArrN) (ms : List MemD) (ds : List (Int × List Int)) (fm fd : List Nat) (h : ArrAt w B x ms ds fm fd) (hf : x.fuse <= 1000) (hM : MsOk ms) :
 Calls Tryz.prog 64 #[.pointer (some ⟨B, 0, none⟩)] w fun e w' => e = .returned (.tuple #[]) /\ ∃ fm', ArrAt w' B (syncS (x, ms) ms.length).1 (syncS (x, ms) ms.length).2 ds fm' fd /\ Moved B fm w fm' w' := by
 have hkp := fun j => syncS_keeps (q := (x, ms)) hM hf j
 have HK := hidden hkp
 clear hkp
 have H0 := hidden h
 obtain ⟨bm0, bd0, cm0, cd0, X0, hm0, _⟩ := h
 have hmx := (row_length hm0.rd).2
 clear X0 hm0
 go_enter Tryz.func64, Tryz.ntmps64
 go_wp2
 go_loopw [2] (fun i wr => ∃ (j : Nat) (fm1 : List Nat), j <= ms.length /\ i = .int .i64 j /\ ArrAt wr B (syncS (x, ms) j).1 (syncS (x, ms) j).2 ds fm1 fd /\ Moved B fm w fm1 wr) (fun i _ => ms.length - (intOf i).toNat)
 case atStart => exact ⟨0, fm, Nat.zero_le _, rfl, H0.out, Moved.refl _ _ _⟩
 case round =>
  obtain ⟨j, fm1, hj, rfl, hA, hMv⟩ := hrel
  obtain ⟨hMj, hsj, hlj⟩ := HK.out j
  have hfj := hsj.2.2.2.2.2.2.2.2.2.1
  have HS := hidden (syncS_succ (x, ms) j)
  generalize hst : syncS (x, ms) j = st at hA hMj hsj hlj hfj HS
  have HST := hidden hst
  clear hst
  obtain ⟨y, ns⟩ := st
  dsimp only at hA hMj hsj hlj hfj
  have HA := hidden hA
  obtain ⟨bm, bd, cm, cd, X, hmm, hdd, hr, r1, r2⟩ := hA
  rw [hlj] at X hmm
  have X0 := X
  unfold arrC at X0
  obtain ⟨k0, k1, k2, k3, k4, k5, k6, k7, k8, k9, k10, k11, k12⟩ := X0.cells13
  by_cases hjn : j < ms.length
  . have i2 : (j : Int) < (ms.length : Int) := by omega
    have i1 : (0 : Int) <= (j : Int) := by omega
    obtain ⟨g, rfl⟩ := row_head hmm (by omega)
    have hdj : ns[j]? = some (ns[j]'(by omega)) := List.getElem?_eq_getElem (by omega)
    generalize ns[j]'(by omega) = d at hdj
    obtain ⟨hgl, a0, a1, a3, c0, c1, c3, ss, cs, f, bs, rfl, q0, q1, q2, q3, _, _, _⟩ := disk_at hmm hdj
    have MV := hidden hMv
    clear X X0 hmm hdd hMv
    cases f
    . go_wp2_with fail
      refine (l7Op_any _ B y ns ds fm1 fd HA.out hfj).mono ?_
      rintro e w1 ⟨rfl, hA1, hMv1⟩
      clear k0 k1 k2 k3 k4 k5 k6 k7 k8 k9 k10 k11 k12 q0 q1 q2 q3 HA
      cases ho : opB y
      . have HP : Hid (syncS (x, ms) (j + 1) = (opX y, ns)) := HS.out.trans (doS_no hdj rfl ho)
        have HB := hidden (MV.out.trans hMv1)
        have HA1 := hidden hA1
        clear hA1 hMv1
        go_wp2
        go_roundw
        case rel => exact ⟨j + 1, fm1, by omega, by go_num, by rw [HP.out]; exact HA1.out, HB.out⟩
        case measure => simp [intOf]; omega
      . have HP : Hid (syncS (x, ms) (j + 1) = (opX y, ns.set j (flM (ss, cs, false, bs)))) := HS.out.trans (doS_yes hdj rfl ho)
        obtain ⟨bm, bd, cm, cd, X, hmm, hdd, hr, r1, r2⟩ := hA1
        obtain ⟨g, rfl⟩ := row_head hmm (by omega)
        obtain ⟨hgl, a0, a1, a3, c0, c1, c3, ss, cs, f, bs, hde, q0, q1, q2, q3, p0, p1, p3⟩ := disk_at hmm hdj
        simp only [Prod.mk.injEq] at hde
        obtain ⟨rfl, rfl, rfl, rfl⟩ := hde
        have X0 := X
        unfold arrC at X0
        have x3 := X0.cells13.2.2.2.1
        have hwt := memB_light (hMj j _ hdj) false
        dsimp only at hwt
        have zB := X.lt
        have XH := hidden X
        have MH := hidden hmm
        have DH := hidden hdd
        have MV1 := hidden hMv1
        have R0 := hidden p0
        have R1 := hidden p1
        have R3 := hidden p3
        have hS : w1.drew.cell? ⟨B, 3, none⟩ = some (.slice (some ⟨g, 0, none⟩) ns.length cm) /\ w1.drew.cell? ⟨g, j * 4, none⟩ = some (.slice a0 ss.length c0) /\ w1.drew.cell? ⟨g, j * 4 + 1, none⟩ = some (.slice a1 cs.length c1) /\ w1.drew.cell? ⟨g, j * 4 + 2, none⟩ = some (.bool false) /\ w1.drew.cell? ⟨g, j * 4 + 3, none⟩ = some (.slice a3 bs.length c3) := ⟨x3, q0, q1, q2, q3⟩
        have i3 : (j : Int) < (ns.length : Int) := by omega
        clear X X0 hmm hdd hMv1 p0 p1 p3
        go_wp2_with fail
        refine Upto.start (S := fun w' => w'.cell? ⟨B, 3, none⟩ = some (.slice (some ⟨g, 0, none⟩) ns.length cm) /\ w'.cell? ⟨g, j * 4, none⟩ = some (.slice a0 ss.length c0) /\ w'.cell? ⟨g, j * 4 + 1, none⟩ = some (.slice a1 cs.length c1) /\ w'.cell? ⟨g, j * 4 + 2, none⟩ = some (.bool false) /\ w'.cell? ⟨g, j * 4 + 3, none⟩ = some (.slice a3 bs.length c3)) (k := 14) (by kernel_rfl) ?_
        refine Upto.t 0 hS ?_
        refine Upto.t 1 hS ?_
        refine Upto.t 2 hS ?_
        refine Upto.t 3 hS ?_
        refine Upto.t 4 hS ?_
        refine Upto.t 5 hS ?_
        refine Upto.t 6 hS ?_
        refine Upto.t 7 hS ?_
        refine Upto.t 8 hS ?_
        refine Upto.t 9 hS ?_
        refine Upto.t 10 hS ?_
        refine Upto.t 11 hS ?_
        refine Upto.one (i := 12) (by kernel_rfl) rfl (fun K hK => ?_)
        go_simp
        refine (specFlushMem_any _ 159 _ _ _ _ _ _ _ _ _ ss cs false bs R0.out.drew R1.out.drew R3.out.drew (by omega)).mono ?_
        rintro e w2 ⟨u0, u1, u3, rfl, o2, b2'⟩
        have b2 : Below w1.heap.size w1 w2 := (Below.refl w1.heap.size w1).drew.trans b2'
        have o2b : (tMem 159).Own w2 w1.heap.size w2.heap.size [u0, u1, .bool false, u3] _ := o2
        obtain ⟨d0, l0, f0, d1, l1, f1, d3, l3, f3, hv0, hv1, hv3⟩ := mem_slices o2b
        subst hv0 hv1 hv3
        obtain ⟨fpx, mx, rx⟩ := o2b.mine
        obtain ⟨cOld, fz, hgm, fm9, hA9, hMv9⟩ := arr_store (m := j) XH.out MH.out DH.out hr r1 r2 b2 (by omega) mx (fun b hb => (rx b hb).1)
        obtain ⟨o0, t0⟩ := cOld 0 (by omega)
        obtain ⟨o1, t1⟩ := cOld 1 (by omega)
        obtain ⟨o2', t2⟩ := cOld 2 (by omega)
        obtain ⟨o3, t3⟩ := cOld 3 (by omega)
        rw [Nat.add_zero] at t0
        have HA := hidden hA9
        have HMV := hidden ((MV.out.trans MV1.out).trans hMv9)
        have hS2 : w2.cell? ⟨B, 3, none⟩ = some (.slice (some ⟨g, 0, none⟩) ns.length cm) /\ w2.cell? ⟨g, j * 4, none⟩ = some (.slice a0 ss.length c0) /\ w2.cell? ⟨g, j * 4 + 1, none⟩ = some (.slice a1 cs.length c1) /\ w2.cell? ⟨g, j * 4 + 2, none⟩ = some (.bool false) /\ w2.cell? ⟨g, j * 4 + 3, none⟩ = some (.slice a3 bs.length c3) := ⟨(b2.cell (p := ⟨B, 3, none⟩) zB).trans x3, (b2.cell (p := ⟨g, j * 4, none⟩) hgl).trans q0, (b2.cell (p := ⟨g, j * 4 + 1, none⟩) hgl).trans q1, (b2.cell (p := ⟨g, j * 4 + 2, none⟩) hgl).trans q2, (b2.cell (p := ⟨g, j * 4 + 3, none⟩) hgl).trans q3⟩
        have gB : ¬ g = B := fun e => r1 (e ▸ hgm)
        unfold put4 at HA HMV
        clear x3 q0 q1 q2 q3 o2 o2b b2 b2' mx rx cOld hA9 hMv9 XH MH DH MV MV1 R0 R1 R3 hwt
        go_wp2_with fail
        refine hK.out _ _ (fun _ => hS2) ?_
        clear hK K
        refine Upto.t 13 hS2 ?_
        refine Upto.one (i := 14) (by kernel_rfl) rfl (fun K hK => ?_)
        go_simp
        refine hK.out _ _ (fun h => absurd rfl h) ?_
        clear hK K
        refine Upto.done (by kernel_rfl) ?_ _
        clear hS hS2 t0 t1 t2 t3 fz
        go_wp2
        go_roundw
        case rel => exact ⟨j + 1, fm9, by omega, by go_num, by rw [HP.out]; exact HA.out, HMV.out⟩
        case measure => simp [intOf]; omega
    . have HP : Hid (syncS (x, ms) (j + 1) = (y, ns)) := HS.out.trans (doS_failed hdj rfl)
      go_wp2
      go_roundw
      case rel => exact ⟨j + 1, fm1, by omega, by go_num, by rw [HP.out]; exact HA.out, MV.out⟩
      case measure => simp [intOf]; omega
  . have ej : j = ms.length := by omega
    subst ej
    have HMV := hidden hMv
    clear X X0 hmm hdd hMv
    go_wp2
    refine bodyPost_end (v := .tuple #[]) (results_none rfl _ _ _) rfl ?_
    exact ⟨rfl, fm1, by rw [HST.out]; exact HA.out, HMV.out⟩

theorem sStripe_of {n s t : Int} : stripeB n s t = true ↔ geoB n s = true /\ 0 <= t /\ t <= s - 1 := by unfold stripeB; rw [Bool.and_eq_true, inB_iff]

theorem l3Stripe_any (w : World) (n s t : Int) : Calls Tryz.prog 222 #[.agg #[.int .i64 n, .int .i64 s], .int .i64 t] w fun e w' => e = .returned (.bool (stripeB n s t)) /\ Below w.heap.size w w' := by
 have hA := new_below w (.cells #[.int .i64 n, .int .i64 s] 25)
 have X := Gbox.new w 25 n s
 obtain ⟨k0, k1⟩ := X.cells
 have zA := X.lt
 go_enter Tryz.func222, Tryz.ntmps222
 go_wp2_with fail
 refine (specGeoOk_any _ _ _).mono ?_
 rintro e w1 ⟨rfl, b1⟩
 have X1 := X.below b1 zA
 obtain ⟨p0, p1⟩ := X1.cells
 have B1 := Below.andThen hA b1
 clear k0 k1 X b1 hA zA
 by_cases hg : geoB n s = true
 . obtain ⟨h1, h2, h3, h4⟩ := geoB_iff.1 hg
   go_wp2_with fail
   refine (l1In_any _ _ _ _).mono ?_
   rintro e w2 ⟨rfl, rfl⟩
   go_wp2
   go_ret
   exact ⟨ret_bool (by unfold stripeB; rw [hg]; rfl), B1⟩
 . have hg : geoB n s = false := by simpa using hg
   go_wp2
   go_ret
   exact ⟨ret_bool (by unfold stripeB; rw [hg]; rfl), B1⟩

theorem specParityOf_any (w : World) (n s t : Int) : Calls Tryz.prog 176 #[.agg #[.int .i64 n, .int .i64 s], .int .i64 t] w fun e w' => e = .returned (.int .i64 (parN n s t)) /\ Below w.heap.size w w' := by
 have hA := new_below w (.cells #[.int .i64 n, .int .i64 s] 25)
 have X := Gbox.new w 25 n s
 obtain ⟨k0, k1⟩ := X.cells
 have zA := X.lt
 go_enter Tryz.func176, Tryz.ntmps176
 go_wp2_with fail
 refine (l3Stripe_any _ _ _ _).mono ?_
 rintro e w1 ⟨rfl, b1⟩
 have X1 := X.below b1 zA
 obtain ⟨p0, p1⟩ := X1.cells
 have B1 := Below.andThen hA b1
 clear k0 k1 X b1 hA zA
 by_cases hg : stripeB n s t = true
 . obtain ⟨hg1, h1, h2⟩ := sStripe_of.1 hg
   obtain ⟨g1, g2, g3, g4⟩ := geoB_iff.1 hg1
   have hm1 : 0 <= t % n := Int.emod_nonneg _ (by omega)
   have hm2 : t % n < n := Int.emod_lt_of_pos _ (by omega)
   have HB : Hid (parN n s t = n - 1 - t % n) := by unfold Hid parN; rw [if_pos hg]
   go_wp2_with fail
   go_quiet (fail)
   go_wp2
   go_ret
   exact ⟨ret_int (by rw [HB.out]), Below.andSame B1 ((Same.refl _).drewN _)⟩
 . have hg' : stripeB n s t = false := by simpa using hg
   go_wp2
   go_ret
   exact ⟨ret_int (by unfold parN; rw [if_neg hg]), B1⟩

def xorL (l : List Int) : Int := l.foldl (fun n x => bits BinOp.xor IntKind.i64 n x) 0

theorem xorL_step {zs : List Int} {j : Nat} {x : Int} (h : j < zs.length) (hx : zs.getD j 0 = x) : bits BinOp.xor IntKind.i64 (xorL (zs.take j)) x = xorL (zs.take (j + 1)) := by
 have e : zs[j] = x := by rw [← hx]; simp [List.getElem?_eq_getElem h]
 unfold xorL
 rw [List.take_succ_eq_append_getElem h, List.foldl_append, e]
 rfl

theorem specXorOf_any (w : World) (a : Option Addr) (len cap : Nat) (zs : List Int) (hz : zs.length = len) (hr : Reads .i64 w a zs) (hlen : len <= 2097152) :
 Calls Tryz.prog 223 #[.slice a len cap] w fun e w' => e = .returned (.int .i64 (xorL zs)) /\ Same w w' := by
 go_enter Tryz.func223, Tryz.ntmps223
 go_wp2
 go_loop [3, 4] (fun n i => ∃ j : Nat, j <= len /\ i = .int .i64 j /\ n = .int .i64 (xorL (zs.take j))) (fun _ i => len - (intOf i).toNat)
 case atStart => exact ⟨0, Nat.zero_le _, rfl, rfl⟩
 case round =>
  obtain ⟨j, hj, rfl, rfl⟩ := hrel
  by_cases hlt : j < len
  . rcases hr.cases with h0 | ⟨b, off, rfl, hbl, hc⟩
    . omega
    have hc1 := hc j (by omega)
    have HX : Hid (bits BinOp.xor IntKind.i64 (xorL (zs.take j)) (zs.getD j 0) = xorL (zs.take (j + 1))) := xorL_step (by omega) rfl
    generalize zs.getD j 0 = x at hc1 HX
    clear hc
    go_wp2
    go_round
    case rel => exact ⟨j + 1, by omega, by go_num, by rw [HX.out]⟩
    case measure => simp [intOf]; omega
  . go_wp2
    go_ret
    have e : j = len := by omega
    subst e
    exact ⟨ret_int (by rw [List.take_of_length_le (by omega)]), Same.refl _⟩

theorem implXorOf_any (w : World) (a : Option Addr) (len cap : Nat) (zs : List Int) (hz : zs.length = len) (hr : Reads .i64 w a zs) (hlen : len <= 2097152) :
 Calls Tryz.prog 244 #[.slice a len cap] w fun e w' => e = .returned (.int .i64 (xorL zs)) /\ Same w w' := by
 go_enter Tryz.func244, Tryz.ntmps244
 go_wp2
 go_loop [3, 8] (fun n i => ∃ j : Nat, j <= len /\ i = .int .i64 j /\ n = .int .i64 (xorL (zs.take j))) (fun _ i => len - (intOf i).toNat)
 case atStart => exact ⟨0, Nat.zero_le _, rfl, rfl⟩
 case round =>
  obtain ⟨j, hj, rfl, rfl⟩ := hrel
  by_cases hlt : j < len
  . rcases hr.cases with h0 | ⟨b, off, rfl, hbl, hc⟩
    . omega
    have hc1 := hc j (by omega)
    have HX : Hid (bits BinOp.xor IntKind.i64 (xorL (zs.take j)) (zs.getD j 0) = xorL (zs.take (j + 1))) := xorL_step (by omega) rfl
    generalize zs.getD j 0 = x at hc1 HX
    clear hc
    go_wp2
    go_round
    case rel => exact ⟨j + 1, by omega, by go_num, by rw [HX.out]⟩
    case measure => simp [intOf]; omega
  . go_wp2
    go_ret
    have e : j = len := by omega
    subst e
    exact ⟨ret_int (by rw [List.take_of_length_le (by omega)]), Same.refl _⟩

theorem implParityWord_any (w : World) (a : Option Addr) (len cap : Nat) (zs : List Int) (hz : zs.length = len) (hr : Reads .i64 w a zs) (hlen : len <= 2097152) :
 Calls Tryz.prog 214 #[.slice a len cap] w fun e w' => e = .returned (.int .i64 (xorL zs)) /\ Same w w' := by
 go_enter Tryz.func214, Tryz.ntmps214
 go_wp2_with fail
 refine (implXorOf_any _ _ _ _ zs hz hr hlen).mono ?_
 rintro e w1 ⟨rfl, hs⟩
 go_wp2
 go_ret
 exact ⟨rfl, hs⟩
theorem specParityWord_any (w : World) (a : Option Addr) (len cap : Nat) (zs : List Int) (hz : zs.length = len) (hr : Reads .i64 w a zs) (hlen : len <= 2097152) :
 Calls Tryz.prog 177 #[.slice a len cap] w fun e w' => e = .returned (.int .i64 (xorL zs)) /\ Same w w' := by
 go_enter Tryz.func177, Tryz.ntmps177
 go_wp2_with fail
 refine (specXorOf_any _ _ _ _ zs hz hr hlen).mono ?_
 rintro e w1 ⟨rfl, hs⟩
 go_wp2
 go_ret
 exact ⟨rfl, hs⟩

def slotN (x : Int) : Int := if 0 <= x then 2 + x % 4 else -1
def dataN (x : Int) : Int := if 0 <= x /\ x <= 1099511627776 then x + 6 else -1
theorem implSlotOf_any (w : World) (x : Int) : Calls Tryz.prog 212 #[.int .i64 x] w fun e w' => e = .returned (.int .i64 (slotN x)) /\ w' = w := by
 by_cases h : 0 <= x
 . have e1 : x.tmod 4 = x % 4 := Int.tmod_eq_emod_of_nonneg h
   have e2 : IntKind.i64.wrap (x % 4) = x % 4 := IntWalk.i64_in _ (by omega)
   have e3 : IntKind.i64.wrap (2 + x % 4) = 2 + x % 4 := IntWalk.i64_in _ (by omega)
   have hv : slotN x = 2 + x % 4 := by unfold slotN; rw [if_pos h]
   go_enter Tryz.func212, Tryz.ntmps212
   go_wp2
   go_ret
   exact ⟨ret_int (by first | (rw [hv]; done) | rfl | omega), rfl⟩
 . have hv : slotN x = -1 := by unfold slotN; rw [if_neg h]
   go_enter Tryz.func212, Tryz.ntmps212
   go_wp2
   go_ret
   exact ⟨ret_int (by first | (rw [hv]; done) | rfl | omega), rfl⟩

theorem specSlotOf_any (w : World) (x : Int) : Calls Tryz.prog 174 #[.int .i64 x] w fun e w' => e = .returned (.int .i64 (slotN x)) /\ w' = w := by
 by_cases h : 0 <= x
 . have e1 : x.tmod 4 = x % 4 := Int.tmod_eq_emod_of_nonneg h
   have e2 : IntKind.i64.wrap (x % 4) = x % 4 := IntWalk.i64_in _ (by omega)
   have e3 : IntKind.i64.wrap (2 + x % 4) = 2 + x % 4 := IntWalk.i64_in _ (by omega)
   have hv : slotN x = 2 + x % 4 := by unfold slotN; rw [if_pos h]
   go_enter Tryz.func174, Tryz.ntmps174
   go_wp2
   go_ret
   exact ⟨ret_int (by first | (rw [hv]; done) | rfl | omega), rfl⟩
 . have hv : slotN x = -1 := by unfold slotN; rw [if_neg h]
   go_enter Tryz.func174, Tryz.ntmps174
   go_wp2
   go_ret
   exact ⟨ret_int (by first | (rw [hv]; done) | rfl | omega), rfl⟩

theorem implDataAt_any (w : World) (x : Int) : Calls Tryz.prog 173 #[.int .i64 x] w fun e w' => e = .returned (.int .i64 (dataN x)) /\ w' = w := by
 by_cases h : 0 <= x /\ x <= 1099511627776
 . have e2 : IntKind.i64.wrap (x + 2) = x + 2 := IntWalk.i64_in _ (by omega)
   have e4 : IntKind.i64.wrap (x + 2 + 4) = x + 2 + 4 := IntWalk.i64_in _ (by omega)
   have e3 : IntKind.i64.wrap (6 + x) = 6 + x := IntWalk.i64_in _ (by omega)
   have hv : dataN x = x + 6 := by unfold dataN; rw [if_pos h]
   have hi : inB x 0 1099511627776 = true := by unfold inB; simp; omega
   go_enter Tryz.func173, Tryz.ntmps173
   go_wp2_with fail
   refine (within_any _ _ _ _).mono ?_
   rintro e w1 ⟨rfl, rfl⟩
   rw [hi]
   go_wp2
   go_ret
   exact ⟨ret_int (by rw [hv]; omega), rfl⟩
 . have hv : dataN x = -1 := by unfold dataN; rw [if_neg h]
   have hi : inB x 0 1099511627776 = false := by unfold inB; simp; omega
   go_enter Tryz.func173, Tryz.ntmps173
   go_wp2_with fail
   refine (within_any _ _ _ _).mono ?_
   rintro e w1 ⟨rfl, rfl⟩
   rw [hi]
   go_wp2
   go_ret
   exact ⟨ret_int (by first | (rw [hv]; done) | rfl | omega), rfl⟩

theorem specDataAt_any (w : World) (x : Int) : Calls Tryz.prog 105 #[.int .i64 x] w fun e w' => e = .returned (.int .i64 (dataN x)) /\ w' = w := by
 by_cases h : 0 <= x /\ x <= 1099511627776
 . have e2 : IntKind.i64.wrap (x + 2) = x + 2 := IntWalk.i64_in _ (by omega)
   have e4 : IntKind.i64.wrap (x + 2 + 4) = x + 2 + 4 := IntWalk.i64_in _ (by omega)
   have e3 : IntKind.i64.wrap (6 + x) = 6 + x := IntWalk.i64_in _ (by omega)
   have hv : dataN x = x + 6 := by unfold dataN; rw [if_pos h]
   have hi : inB x 0 1099511627776 = true := by unfold inB; simp; omega
   go_enter Tryz.func105, Tryz.ntmps105
   go_wp2_with fail
   refine (l1In_any _ _ _ _).mono ?_
   rintro e w1 ⟨rfl, rfl⟩
   rw [hi]
   go_wp2
   go_ret
   exact ⟨ret_int (by rw [hv]; omega), rfl⟩
 . have hv : dataN x = -1 := by unfold dataN; rw [if_neg h]
   have hi : inB x 0 1099511627776 = false := by unfold inB; simp; omega
   go_enter Tryz.func105, Tryz.ntmps105
   go_wp2_with fail
   refine (l1In_any _ _ _ _).mono ?_
   rintro e w1 ⟨rfl, rfl⟩
   rw [hi]
   go_wp2
   go_ret
   exact ⟨ret_int (by first | (rw [hv]; done) | rfl | omega), rfl⟩

def dataW (n p : Int) (zs : List Int) (i : Nat) : Int := if (i : Int) = p then xorL zs else zs.getD (((i : Int) - p - 1 + n) % n).toNat 0
def datasS (q : ArrN × List MemD) (s p : Int) (zs : List Int) (j : Nat) : ArrN × List MemD := (List.range j).foldl (fun q (i : Nat) => if liveB q.1 q.2 (i : Int) s = true then putS q i (dataN s) [dataW q.1.n p zs i] else q) q
theorem datasS_succ (q : ArrN × List MemD) (s p : Int) (zs : List Int) (j : Nat) : datasS q s p zs (j + 1) = if liveB (datasS q s p zs j).1 (datasS q s p zs j).2 (j : Int) s = true then putS (datasS q s p zs j) j (dataN s) [dataW (datasS q s p zs j).1.n p zs j] else datasS q s p zs j := by unfold datasS; rw [List.range_succ, List.foldl_append]; rfl
theorem datasS_keeps {q : ArrN × List MemD} (s p : Int) (zs : List Int) (h : MsOk q.2) (hf : q.1.fuse <= 1000) : ∀ j, MsOk (datasS q s p zs j).2 /\ SameN q.1 (datasS q s p zs j).1 /\ (datasS q s p zs j).2.length = q.2.length
 | 0 => ⟨h, SameN.refl hf, rfl⟩
 | j + 1 => by
  obtain ⟨h1, h2, h3⟩ := datasS_keeps s p zs h hf j
  rw [datasS_succ]
  split
  . exact ⟨putS_ok h1, h2.trans (doS_same _ _ h2.2.2.2.2.2.2.2.2.2.1), by unfold putS; rw [doS_len]; exact h3⟩
  . exact ⟨h1, h2, h3⟩
theorem MsOk.light {ms : List MemD} (h : MsOk ms) (hl : ms.length <= 1000) : wtMemS ms <= 2097152 := by
 have h1 : ∀ x ∈ ms.map wtMem, x <= 2000 := fun x hx => by
  obtain ⟨d, hd, rfl⟩ := List.mem_map.1 hx
  obtain ⟨i, hi⟩ := List.mem_iff_getElem?.1 hd
  exact memB_light (h i d hi) d.2.2.1
 have h2 := sumL_bound (ms.map wtMem) 2000 h1
 rw [List.length_map] at h2
 unfold wtMemS
 omega
theorem par_in {n s t : Int} (hg : geoB n s = true) (ht : inB t 0 (s - 1) = true) : 0 <= parN n s t /\ parN n s t < n := by
 obtain ⟨g1, g2, g3, g4⟩ := geoB_iff.1 hg
 have hs : stripeB n s t = true := by unfold stripeB; rw [hg, ht]; rfl
 unfold parN
 rw [if_pos hs]
 have h1 := Int.emod_nonneg t (show n ≠ 0 by omega)
 have h2 := Int.emod_lt_of_pos t (show 0 < n by omega)
 omega

theorem l7Data_any (w : World) (B : Nat) (x : ArrN) (ms : List MemD) (ds : List (Int × List Int)) (fm fd : List Nat) (h : ArrAt w B x ms ds fm fd) (hf : x.fuse <= 1000) (hM : MsOk ms) (s : Int) (ar : Option Addr) (nr cr : Nat) (zs : List Int) (fr : List Nat) (h5 : tIntS.Mine w [.slice ar nr cr] zs fr) (h5B : B ∉ fr) (h5f : ∀ b ∈ fr, b ∉ fm) (hg : geoB x.n x.s = true) (hs : inB s 0 (x.s - 1) = true) (hl : (ms.length : Int) = x.n) (hz : (nr : Int) = x.n - 1) :
 Calls Tryz.prog 121 #[.pointer (some ⟨B, 0, none⟩), .int .i64 s, .slice ar nr cr] w fun e w' => e = .returned (.tuple #[]) /\ ∃ fm', ArrAt w' B (datasS (x, ms) s (parN x.n x.s s) zs ms.length).1 (datasS (x, ms) s (parN x.n x.s s) zs ms.length).2 ds fm' fd /\ Moved B fm w fm' w' := by
 have hzl := (row_length h5.rd).1
 obtain ⟨g1, g2, g3, g4⟩ := geoB_iff.1 hg
 obtain ⟨pn0, pn1⟩ := par_in hg hs
 have HK : Hid (∀ j, _) := fun j => datasS_keeps (q := (x, ms)) s (parN x.n x.s s) zs hM hf j
 obtain ⟨N, hN⟩ : ∃ N : Nat, x.n = (N : Int) := ⟨x.n.toNat, by omega⟩
 have hmN : ms.length = N := by omega
 have hn5 : N <= 5 := by omega
 have hn3 : 3 <= N := by omega
 have hnr : nr + 1 <= N /\ N <= nr + 1 := by omega
 have hml : ms.length <= N /\ N <= ms.length := by omega
 have HNN := hidden hN
 have hpN : parN x.n x.s s < (N : Int) := by omega
 clear hN hmN hl hz pn1
 have A0 := hidden h
 have zB := h.lt
 have hlm := h.ltm.1
 have hlr := h5.lt
 have M5 := hidden h5
 have hmx : ∃ cm0, ms.length <= cm0 /\ cm0 <= 9223372036854775807 := by
  obtain ⟨_, _, cm0, _, _, hm0, _⟩ := h
  exact ⟨cm0, (row_length hm0.rd).2⟩
 obtain ⟨cm0, hmx⟩ := hmx
 obtain ⟨bm, bd, cm, cd, X, hmm, hdd, hr, r1, r2⟩ := h
 unfold arrC at X
 obtain ⟨k0, k1, k2, k3, k4, k5, k6, k7, k8, k9, k10, k11, k12⟩ := X.cells13
 clear X hmm hdd hr r1 r2
 go_enter Tryz.func121, Tryz.ntmps121
 go_wp2_with fail
 refine (specParityOf_any _ x.n x.s s).mono ?_
 rintro e W ⟨rfl, bW⟩
 clear k0 k1 k2 k3 k4 k5 k6 k7 k8 k9 k10 k11 k12
 generalize hp : parN x.n x.s s = p at pn0 hpN HK ⊢
 have HP0 := hidden hp
 clear hp
 have A1 := hidden (A0.out.below bW)
 have M5W := hidden (M5.out.below bW)
 have BW := hidden bW
 have zW := bW.size
 clear bW A0 M5
 go_wp2
 go_loopw [7] (fun i wr => ∃ (j : Nat) (fm1 : List Nat), j <= ms.length /\ i = .int .i64 j /\ ArrAt wr B (datasS (x, ms) s p zs j).1 (datasS (x, ms) s p zs j).2 ds fm1 fd /\ Moved B fm W fm1 wr) (fun i _ => ms.length - (intOf i).toNat)
 case atStart => exact ⟨0, fm, Nat.zero_le _, rfl, A1.out, Moved.refl _ _ _⟩
 case round =>
  obtain ⟨j, fm1, hj, rfl, hA, hMv⟩ := hrel
  obtain ⟨hMj, hsj, hlj⟩ := HK.out j
  have hfj := hsj.2.2.2.2.2.2.2.2.2.1
  have hnj := hsj.2.1
  have HS := hidden (datasS_succ (x, ms) s p zs j)
  generalize hst : datasS (x, ms) s p zs j = st at hA hMj hsj hlj hfj hnj HS
  have HST := hidden hst
  clear hst
  obtain ⟨y, ns⟩ := st
  dsimp only at hA hMj hsj hlj hfj hnj HS
  clear hsj
  have HNJ := hidden hnj
  clear hnj
  have HA := hidden hA
  obtain ⟨bm, bd, cm, cd, X, hmm, hdd, hr, r1, r2⟩ := hA
  have HL := hidden hlj
  rw [hlj] at X hmm
  unfold arrC at X
  have hwM := hMj.light (by omega)
  clear hlj
  have RM := hidden hmm.rd
  have zr := X.lt
  have XH := hidden X
  obtain ⟨k0, k1, k2, k3, k4, k5, k6, k7, k8, k9, k10, k11, k12⟩ := X.cells13
  clear hmm hdd hr r1 r2 X
  have m5 := hMv.mine M5W.out h5B h5f
  have zw := hMv.size
  obtain ⟨rd5, _⟩ := ints_rd m5.rd
  have M5R := hidden m5
  have MV := hidden hMv
  clear m5 hMv
  by_cases hjn : j < ms.length
  . have i2 : (j : Int) < (ms.length : Int) := by omega
    have RD5 := hidden rd5
    go_wp2_with fail
    refine (specParityWord_any _ _ _ _ zs hzl RD5.out (by omega)).mono ?_
    rintro e w1 ⟨rfl, s1⟩
    have b1 := s1.below wr.heap.size
    have X1 := XH.out.below b1 zr
    have A2 := hidden (HA.out.below b1)
    have R2 := hidden (RM.out.below b1)
    have M2 := hidden (M5R.out.below b1)
    have MV2 := hidden (MV.out.below b1)
    have zr1 := X1.lt
    have RD6 := hidden (RD5.out.below b1)
    have z1 := b1.size
    clear k0 k1 k2 k3 k4 k5 k6 k7 k8 k9 k10 k11 k12 s1 b1 XH RM M5R MV RD5 HA rd5
    obtain ⟨k0, k1, k2, k3, k4, k5, k6, k7, k8, k9, k10, k11, k12⟩ := X1.cells13
    by_cases hjp : (j : Int) = p
    . have e1 : ((j : Int) == p) = true := by simpa using hjp
      have e2 : ((j : Int) != p) = false := by simpa using hjp
      have HDW : Hid (dataW y.n p zs j = xorL zs) := by unfold Hid dataW; rw [if_pos hjp]
      clear hjp
      generalize xorL zs = v at HDW ⊢
      go_wp2_with fail
      refine (specLiveAt_any _ 159 109 y _ _ _ _ _ _ ns (j : Int) s R2.out hwM).mono ?_
      rintro e w4 ⟨rfl, b4⟩
      have A4 := hidden (A2.out.below b4)
      have MV4 := hidden (MV2.out.below b4)
      clear k0 k1 k2 k3 k4 k5 k6 k7 k8 k9 k10 k11 k12 b4 X1
      cases hlv : liveB y ns (j : Int) s
      . have HP : Hid (datasS (x, ms) s p zs (j + 1) = (y, ns)) := by unfold Hid; rw [HS.out, if_neg (by simp [hlv])]
        go_wp2
        go_roundw
        case rel => exact ⟨j + 1, fm1, by omega, by go_num, by rw [HP.out]; exact A4.out, MV4.out⟩
        case measure => simp [intOf]; omega
      . have HP : Hid (datasS (x, ms) s p zs (j + 1) = putS (y, ns) j (dataN s) [dataW y.n p zs j]) := by unfold Hid; rw [HS.out, if_pos hlv]
        rw [HDW.out] at HP
        go_wp2_with fail
        refine (specDataAt_any _ _).mono ?_
        rintro e w5 ⟨rfl, h5w⟩
        subst h5w
        have b5 := new_below w5 (.cells #[.int .i64 v] 3)
        have A5 := hidden (A4.out.below b5)
        have MV5 := hidden (MV4.out.below b5)
        have LT := hidden A4.out.ltm
        have zB4 := A4.out.lt
        obtain ⟨fp5, m5, r5⟩ := (own_ints (Owns.lit .i64 3 w5 [v] 1 #[.int .i64 v] rfl rfl (by unfold maxLen; omega))).mine
        have M5 := hidden m5
        have R5 := hidden r5
        clear m5 r5 b5
        go_wp2_with fail
        refine (l7Put_any _ B y ns ds fm1 fd A5.out hfj hMj j (by have := HL.out; omega) _ _ _ _ [v] fp5 M5.out (fun hm => by have := R5.out _ hm; omega) (fun b hb hm => by have h1 := R5.out b hb; have h2 := LT.out.1 b hm; omega) (by omega)).mono ?_
        rintro e w6 ⟨rfl, fm3, hA3, hMv3⟩
        have HA3 : Hid (ArrAt w6 B (datasS (x, ms) s p zs (j + 1)).1 (datasS (x, ms) s p zs (j + 1)).2 ds fm3 fd) := by unfold Hid; rw [HP.out]; exact hA3
        have HM3 := hidden (MV5.out.trans hMv3)
        clear hA3 hMv3
        go_wp2
        go_roundw
        case rel => exact ⟨j + 1, fm3, by omega, by go_num, HA3.out, HM3.out⟩
        case measure => simp [intOf]; omega
    . have e1 : ((j : Int) == p) = false := by simpa using hjp
      have e2 : ((j : Int) != p) = true := by simpa using hjp
      have hyN : y.n = (N : Int) := HNJ.out.trans HNN.out
      obtain ⟨Q, hQ⟩ : ∃ Q : Nat, ((j : Int) - p - 1 + (N : Int)) % (N : Int) = (Q : Int) := ⟨(((j : Int) - p - 1 + (N : Int)) % (N : Int)).toNat, by have := Int.emod_nonneg ((j : Int) - p - 1 + (N : Int)) (show (N : Int) ≠ 0 by omega); omega⟩
      have hQlt : Q < nr := by
       have h1 := Int.emod_lt_of_pos ((j : Int) - p - 1 + (N : Int)) (show (0 : Int) < (N : Int) by omega)
       by_cases hc : (j : Int) < p
       . rw [Int.emod_eq_of_lt (by omega) (by omega)] at hQ; omega
       . rw [show (j : Int) - p - 1 + (N : Int) = ((j : Int) - p - 1) + (N : Int) * 1 by omega, Int.add_mul_emod_self_left, Int.emod_eq_of_lt (by omega) (by omega)] at hQ; omega
      have HDW : Hid (dataW y.n p zs j = zs.getD Q 0) := by unfold Hid dataW; rw [if_neg hjp, hyN, hQ, Int.toNat_natCast]
      rw [hyN] at k1
      have w1a : IntKind.i64.wrap ((j : Int) - p) = (j : Int) - p := IntWalk.i64_in _ (by omega)
      have w1b : IntKind.i64.wrap ((j : Int) - p - 1) = (j : Int) - p - 1 := IntWalk.i64_in _ (by omega)
      have w1c : IntKind.i64.wrap ((j : Int) - p - 1 + (N : Int)) = (j : Int) - p - 1 + (N : Int) := IntWalk.i64_in _ (by omega)
      have w1d : ((j : Int) - p - 1 + (N : Int)).tmod (N : Int) = (Q : Int) := by rw [Int.tmod_eq_emod_of_nonneg (by omega), hQ]
      have w1e : ¬ (N : Int) = 0 := by omega
      have w1f : ¬ N = 0 := by omega
      have w1g : IntKind.i64.wrap (Q : Int) = (Q : Int) := IntWalk.i64_in _ (by omega)
      have q1 : (0 : Int) <= (Q : Int) := by omega
      have q2 : (Q : Int) < (nr : Int) := by omega
      rcases RD6.out.cases with hn0 | ⟨b, off, rfl, hbl, hcs⟩
      . omega
      have hcq := hcs Q (by omega)
      generalize zs.getD Q 0 = v at HDW hcq ⊢
      clear hQ hjp hcs hyN
      go_wp2_with fail
      refine wp_region_held_drew (S := fun w' => w'.cell? ⟨B, 1, none⟩ = some (.int .i64 (N : Int)) /\ w'.cell? ⟨b, off + Q, none⟩ = some (.int .i64 v)) (by kernel_rfl) ?_ (fun hHeld => ?_)
      . exact ⟨k1, hcq⟩
      refine held_t 0 hHeld ?_
      refine held_t 1 hHeld ?_
      refine held_t 2 hHeld ?_
      refine held_t 3 hHeld ?_
      refine held_t 4 hHeld ?_
      refine held_t 5 hHeld ?_
      refine held_t 6 hHeld ?_
      refine held_t 7 hHeld ?_
      refine held_t 8 hHeld ?_
      refine held_t 9 hHeld ?_
      refine held_t 10 hHeld ?_
      refine held_t 11 hHeld ?_
      refine held_t 12 hHeld ?_
      refine held_t 13 hHeld ?_
      refine held_t 14 hHeld ?_
      refine held_t 15 hHeld ?_
      refine held_t 16 hHeld ?_
      refine held_t 17 hHeld ?_
      refine held_t 18 hHeld ?_
      refine held_t 19 hHeld ?_
      refine wpAnyH_done (by kernel_rfl) ?_ _
      clear hHeld
      have X3 := X1.below ((Below.refl w1.heap.size w1).drew) zr1
      have A3 := hidden A2.out.drew
      have R3 := hidden R2.out.drew
      have MV3 := hidden MV2.out.drew
      clear k0 k1 k2 k3 k4 k5 k6 k7 k8 k9 k10 k11 k12 hcq
      obtain ⟨k0, k1, k2, k3, k4, k5, k6, k7, k8, k9, k10, k11, k12⟩ := X3.cells13
      go_wp2_with fail
      refine (specLiveAt_any _ 159 109 y _ _ _ _ _ _ ns (j : Int) s R3.out hwM).mono ?_
      rintro e w4 ⟨rfl, b4⟩
      have A4 := hidden (A3.out.below b4)
      have MV4 := hidden (MV3.out.below b4)
      clear k0 k1 k2 k3 k4 k5 k6 k7 k8 k9 k10 k11 k12 b4 X1
      cases hlv : liveB y ns (j : Int) s
      . have HP : Hid (datasS (x, ms) s p zs (j + 1) = (y, ns)) := by unfold Hid; rw [HS.out, if_neg (by simp [hlv])]
        go_wp2
        go_roundw
        case rel => exact ⟨j + 1, fm1, by omega, by go_num, by rw [HP.out]; exact A4.out, MV4.out⟩
        case measure => simp [intOf]; omega
      . have HP : Hid (datasS (x, ms) s p zs (j + 1) = putS (y, ns) j (dataN s) [dataW y.n p zs j]) := by unfold Hid; rw [HS.out, if_pos hlv]
        rw [HDW.out] at HP
        go_wp2_with fail
        refine (specDataAt_any _ _).mono ?_
        rintro e w5 ⟨rfl, h5w⟩
        subst h5w
        have b5 := new_below w5 (.cells #[.int .i64 v] 3)
        have A5 := hidden (A4.out.below b5)
        have MV5 := hidden (MV4.out.below b5)
        have LT := hidden A4.out.ltm
        have zB4 := A4.out.lt
        obtain ⟨fp5, m5, r5⟩ := (own_ints (Owns.lit .i64 3 w5 [v] 1 #[.int .i64 v] rfl rfl (by unfold maxLen; omega))).mine
        have M5 := hidden m5
        have R5 := hidden r5
        clear m5 r5 b5
        go_wp2_with fail
        refine (l7Put_any _ B y ns ds fm1 fd A5.out hfj hMj j (by have := HL.out; omega) _ _ _ _ [v] fp5 M5.out (fun hm => by have := R5.out _ hm; omega) (fun b hb hm => by have h1 := R5.out b hb; have h2 := LT.out.1 b hm; omega) (by omega)).mono ?_
        rintro e w6 ⟨rfl, fm3, hA3, hMv3⟩
        have HA3 : Hid (ArrAt w6 B (datasS (x, ms) s p zs (j + 1)).1 (datasS (x, ms) s p zs (j + 1)).2 ds fm3 fd) := by unfold Hid; rw [HP.out]; exact hA3
        have HM3 := hidden (MV5.out.trans hMv3)
        clear hA3 hMv3
        go_wp2
        go_roundw
        case rel => exact ⟨j + 1, fm3, by omega, by go_num, HA3.out, HM3.out⟩
        case measure => simp [intOf]; omega
  . have ej : j = ms.length := by omega
    subst ej
    have HMV := hidden (((Moved.refl B fm w).below BW.out).trans MV.out)
    go_wp2
    refine bodyPost_end (v := .tuple #[]) (results_none rfl _ _ _) rfl ?_
    exact ⟨rfl, fm1, by rw [HP0.out, HST.out]; exact HA.out, HMV.out⟩

def recB (x y : Int) (zs : List Int) : Bool := inB x 0 60000 && (inB y 0 7 && (inB (zs.length : Int) 2 4 && allW zs))
theorem recB_x {x y : Int} {zs : List Int} (h : inB x 0 60000 = false) : recB x y zs = false := by unfold recB; rw [h]; rfl
theorem recB_y {x y : Int} {zs : List Int} (h : inB y 0 7 = false) : recB x y zs = false := by unfold recB; rw [h]; simp
theorem recB_n {x y : Int} {zs : List Int} (h : inB (zs.length : Int) 2 4 = false) : recB x y zs = false := by unfold recB; rw [h]; simp
theorem recB_w {x y : Int} {zs : List Int} (h1 : inB x 0 60000 = true) (h2 : inB y 0 7 = true) (h3 : inB (zs.length : Int) 2 4 = true) : recB x y zs = allW zs := by unfold recB; rw [h1, h2, h3]; rfl
theorem recB_of {x y : Int} {zs : List Int} : recB x y zs = true ↔ (0 <= x /\ x <= 60000) /\ (0 <= y /\ y <= 7) /\ (2 <= zs.length /\ zs.length <= 4) /\ allW zs = true := by
 unfold recB inB
 simp only [Bool.and_eq_true, decide_eq_true_eq]
 constructor
 . rintro ⟨h1, h2, h3, h4⟩
   exact ⟨h1, h2, by omega, h4⟩
 . rintro ⟨h1, h2, h3, h4⟩
   exact ⟨h1, h2, by omega, h4⟩
theorem secB_short {zs : List Int} (h : inB (zs.length : Int) 2 4 = true) : secB zs = allW zs := by
 unfold inB at h
 simp at h
 unfold secB
 rw [decide_eq_true (by omega)]
 rfl
theorem Box.cells3 {w : World} {B : Nat} {T : TypeId} {v0 v1 v2 : Value} (h : Box w B T #[v0, v1, v2]) : w.cell? ⟨B, 0, none⟩ = some v0 /\ w.cell? ⟨B, 1, none⟩ = some v1 /\ w.cell? ⟨B, 2, none⟩ = some v2 := ⟨h.cell 0, h.cell 1, h.cell 2⟩

theorem specRecOk_any (w : World) (x y : Int) (a : Option Addr) (n cap : Nat) (zs : List Int) (hz : zs.length = n) (hr : Reads .i64 w a zs) (hn : n <= 2097152) :
 Calls Tryz.prog 221 #[.agg #[.int .i64 x, .int .i64 y, .slice a n cap]] w fun e w' => e = .returned (.bool (recB x y zs)) /\ Below w.heap.size w w' := by
 have hA := new_below w (.cells #[.int .i64 x, .int .i64 y, .slice a n cap] 121)
 have hr' := hr.below hA
 subst hz
 go_enter Tryz.func221, Tryz.ntmps221
 go_wp2_with fail
 refine (l1In_any _ _ _ _).mono ?_
 rintro e w1 ⟨rfl, rfl⟩
 cases hx : inB x 0 60000
 . go_wp2
   go_ret
   exact ⟨ret_bool (recB_x hx).symm, hA⟩
 . go_wp2_with fail
   refine (l1In_any _ _ _ _).mono ?_
   rintro e w1 ⟨rfl, rfl⟩
   cases hy : inB y 0 7
   . go_wp2
     go_ret
     exact ⟨ret_bool (recB_y hy).symm, hA⟩
   . go_wp2_with fail
     refine (l1In_any _ _ _ _).mono ?_
     rintro e w1 ⟨rfl, rfl⟩
     cases hl : inB (zs.length : Int) 2 4
     . go_wp2
       go_ret
       exact ⟨ret_bool (recB_n hl).symm, hA⟩
     . go_wp2_with fail
       refine (l1Words_any _ _ _ _ zs rfl hr' hn).mono ?_
       rintro e w1 ⟨rfl, rfl⟩
       go_wp2
       go_ret
       exact ⟨ret_bool (recB_w hx hy hl).symm, hA⟩

theorem implRecOk_any (w : World) (x y : Int) (a : Option Addr) (n cap : Nat) (zs : List Int) (hz : zs.length = n) (hr : Reads .i64 w a zs) (hn : n <= 2097152) :
 Calls Tryz.prog 242 #[.agg #[.int .i64 x, .int .i64 y, .slice a n cap]] w fun e w' => e = .returned (.bool (recB x y zs)) /\ Below w.heap.size w w' := by
 have hA := new_below w (.cells #[.int .i64 x, .int .i64 y, .slice a n cap] 121)
 have hr' := hr.below hA
 subst hz
 go_enter Tryz.func242, Tryz.ntmps242
 go_wp2_with fail
 refine (within_any _ _ _ _).mono ?_
 rintro e w1 ⟨rfl, rfl⟩
 cases hx : inB x 0 60000
 . go_wp2
   go_ret
   exact ⟨ret_bool (recB_x hx).symm, hA⟩
 . go_wp2_with fail
   refine (within_any _ _ _ _).mono ?_
   rintro e w1 ⟨rfl, rfl⟩
   cases hy : inB y 0 7
   . go_wp2
     go_ret
     exact ⟨ret_bool (recB_y hy).symm, hA⟩
   . go_wp2_with fail
     refine (within_any _ _ _ _).mono ?_
     rintro e w1 ⟨rfl, rfl⟩
     cases hl : inB (zs.length : Int) 2 4
     . go_wp2
       go_ret
       exact ⟨ret_bool (recB_n hl).symm, hA⟩
     . have HS := secB_short hl
       go_wp2_with fail
       refine (implSecOk_any _ _ _ _ zs rfl hr' hn).mono ?_
       rintro e w1 ⟨rfl, hs⟩
       go_wp2
       go_ret
       exact ⟨ret_bool (recB_w hx hy hl).symm, Below.andSame hA hs⟩

def cutO (off n : Nat) : Nat := if n = 4 then off else off + 4
theorem cutSlot_any (w : World) (b off n cap : Nat) (h4 : 4 <= n) (hc : n <= cap) (hm : n <= 2097152) :
 Calls Tryz.prog 243 #[.slice (some ⟨b, off, none⟩) n cap] w fun e w' => e = .returned (.tuple #[.slice (some ⟨b, off, none⟩) 4 4, .slice (some ⟨b, cutO off n, none⟩) (n - 4) (n - 4)]) /\ Same w w' := by
 unfold cutO
 by_cases h : n = 4
 . rw [if_pos h]
   go_enter Tryz.func243, Tryz.ntmps243
   go_wp2_with fail
   go_quiet (fail)
   go_wp2
   refine bodyPost_ret (v := .tuple #[.slice (some ⟨b, off, none⟩) 4 4, .slice (some ⟨b, off, none⟩) 0 0]) (by simp [results, Tryz.results243, go_sem]) rfl ?_
   subst h
   exact ⟨rfl, (Same.refl _).drewN _⟩
 . rw [if_neg h]
   go_enter Tryz.func243, Tryz.ntmps243
   go_wp2_with fail
   go_quiet (fail)
   go_wp2
   refine bodyPost_ret (v := .tuple #[.slice (some ⟨b, off, none⟩) 4 4, .slice (some ⟨b, off + 4, none⟩) (n - 4) (n - 4)]) (by simp [results, Tryz.results243, go_sem]) rfl ?_
   exact ⟨rfl, (Same.refl _).drewN _⟩

def putR (x y : Int) (zs : List Int) : List Int := if recB x y zs = true then 21322 :: x :: y :: (zs.length : Int) :: zs else []
theorem putR_of {x y : Int} {zs : List Int} (h : recB x y zs = true) : putR x y zs = 21322 :: x :: y :: (zs.length : Int) :: zs := by unfold putR; rw [if_pos h]
theorem putR_not {x y : Int} {zs : List Int} (h : recB x y zs = false) : putR x y zs = [] := by unfold putR; rw [if_neg (by simp [h])]

theorem own_setCells {lo hi g n : Nat} : ∀ (us : List Int) (o : Nat) (zs : List Int) (w : World), Own .i64 3 w lo hi (.slice (some ⟨g, 0, none⟩) n n) zs -> o + us.length <= n ->
 Own .i64 3 (w.setCells g o (us.map (Value.int .i64))) lo hi (.slice (some ⟨g, 0, none⟩) n n) (zs.take o ++ us ++ zs.drop (o + us.length)) /\ But lo hi w (w.setCells g o (us.map (Value.int .i64)))
 | [], o, zs, w, h, _ => ⟨by simpa [World.setCells] using h, But.refl _ _ _⟩
 | u :: us, o, zs, w, h, hl => by
  have hz := h.length
  simp only [List.length_cons] at hl
  obtain ⟨_, _, h1, b1⟩ := h.store o (by omega) u
  obtain ⟨h2, b2⟩ := own_setCells us (o + 1) (zs.set o u) _ h1 (by omega)
  refine ⟨?_, b1.trans b2⟩
  have e : (zs.set o u).take (o + 1) ++ us ++ (zs.set o u).drop (o + 1 + us.length) = zs.take o ++ (u :: us) ++ zs.drop (o + (u :: us).length) := by
   rw [List.drop_set, if_pos (by omega), List.take_set, List.take_succ_eq_append_getElem (by omega), List.set_append, if_neg (by simp; omega)]
   have : o - (zs.take o).length = 0 := by simp; omega
   rw [this]
   simp
   omega
  rw [e] at h2
  exact h2

def stored4 (w : World) (g : Nat) (v0 v1 v2 v3 : Value) : World := (((w.setCell ⟨g, 0, none⟩ v0).setCell ⟨g, 1, none⟩ v1).setCell ⟨g, 2, none⟩ v2).setCell ⟨g, 3, none⟩ v3
theorem zeros_cell {w : World} {lo hi g n : Nat} (O : Own .i64 3 w lo hi (.slice (some ⟨g, 0, none⟩) n n) (List.replicate n (0 : Int))) (j : Nat) (h : j < n) : w.cell? ⟨g, j, none⟩ = some (.int .i64 0) /\ w.frozen? ⟨g, j, none⟩ = false := by
 obtain ⟨h1, h2, _⟩ := O.store j h 0
 refine ⟨?_, h2⟩
 rw [h1]
 simp [h]
theorem put_stores {w : World} {lo hi g n b off cap : Nat} {x0 x1 x2 x3 : Int} {zs : List Int} (O : Own .i64 3 w lo hi (.slice (some ⟨g, 0, none⟩) (4 + n) (4 + n)) (List.replicate (4 + n) (0 : Int))) (hz : zs.length = n) (r : Reads .i64 w (some ⟨b, off, none⟩) zs) (hb : b < lo) (hlo : lo <= w.heap.size) :
 (∀ ty, (Builtin.copy_ #[30, 30] ty #[.slice (some ⟨g, 4, none⟩) n n, .slice (some ⟨b, off, none⟩) n cap]).run Tryz.prog (stored4 w g (.int .i64 x0) (.int .i64 x1) (.int .i64 x2) (.int .i64 x3)) = .ok (goInt n) ((stored4 w g (.int .i64 x0) (.int .i64 x1) (.int .i64 x2) (.int .i64 x3)).setCells g 4 (zs.map (Value.int .i64)))) /\
 Own .i64 3 ((stored4 w g (.int .i64 x0) (.int .i64 x1) (.int .i64 x2) (.int .i64 x3)).setCells g 4 (zs.map (Value.int .i64))) lo hi (.slice (some ⟨g, 0, none⟩) (4 + n) (4 + n)) (x0 :: x1 :: x2 :: x3 :: zs) /\
 But lo hi w ((stored4 w g (.int .i64 x0) (.int .i64 x1) (.int .i64 x2) (.int .i64 x3)).setCells g 4 (zs.map (Value.int .i64))) := by
 obtain ⟨_, _, O4, t4⟩ := O.store 0 (by omega) x0
 obtain ⟨_, _, O5, t5⟩ := O4.store 1 (by omega) x1
 obtain ⟨_, _, O6, t6⟩ := O5.store 2 (by omega) x2
 obtain ⟨_, _, O7, t7⟩ := O6.store 3 (by omega) x3
 have T := ((t4.trans t5).trans t6).trans t7
 have eL : ((((List.replicate (4 + n) (0 : Int)).set 0 x0).set 1 x1).set 2 x2).set 3 x3 = x0 :: x1 :: x2 :: x3 :: List.replicate n (0 : Int) := by
  rw [Nat.add_comm 4 n]
  rfl
 rw [eL] at O7
 change Own .i64 3 (stored4 w g (.int .i64 x0) (.int .i64 x1) (.int .i64 x2) (.int .i64 x3)) lo hi _ _ at O7
 change But lo hi w (stored4 w g (.int .i64 x0) (.int .i64 x1) (.int .i64 x2) (.int .i64 x3)) at T
 generalize stored4 w g (.int .i64 x0) (.int .i64 x1) (.int .i64 x2) (.int .i64 x3) = U at O7 T ⊢
 have rU : Reads .i64 U (some ⟨b, off, none⟩) zs := r.old (B := lo) (by intro q hq; simp at hq; rw [← hq]; exact hb) (T.below (Nat.le_refl _) hlo)
 obtain ⟨O8, t8⟩ := own_setCells zs 4 _ U O7 (by omega)
 have e8 : (x0 :: x1 :: x2 :: x3 :: List.replicate n (0 : Int)).take 4 ++ zs ++ (x0 :: x1 :: x2 :: x3 :: List.replicate n (0 : Int)).drop (4 + zs.length) = x0 :: x1 :: x2 :: x3 :: zs := by
  rw [List.drop_of_length_le (by simp; omega)]
  simp
 rw [e8] at O8
 refine ⟨fun ty => ?_, O8, T.trans t8⟩
 have := run_copy_cells (P := Tryz.prog) U 30 30 ty 3 g 4 n n ⟨b, off, none⟩ n cap (zs.map (Value.int .i64)) Tryz.underlying30 (by kernel_rfl) (by simp [hz]) rU.cells
  (fun j hj => by rw [(O7.store (4 + j) (by simp at hj; omega) 0).1]; rfl) (fun j hj => (O7.store (4 + j) (by simp at hj; omega) 0).2.1) (ints_plain _)
 rw [this]
 simp [hz]

theorem specPutRec_any (w : World) (x y : Int) (a : Option Addr) (n cap : Nat) (zs : List Int) (hz : zs.length = n) (hr : Reads .i64 w a zs) (hn : n <= 2097152) :
 Calls Tryz.prog 175 #[.agg #[.int .i64 x, .int .i64 y, .slice a n cap]] w fun e w' => ∃ a l c, e = .returned (.slice a l c) /\ tIntS.Own w' w.heap.size w'.heap.size [.slice a l c] (putR x y zs) /\ Below w.heap.size w w' := by
 have hA := new_below w (.cells #[.int .i64 x, .int .i64 y, .slice a n cap] 121)
 have X := Box.new w 121 #[.int .i64 x, .int .i64 y, .slice a n cap]
 have hr' := hr.below hA
 obtain ⟨k0, k1, k2⟩ := X.cells3
 have zA := X.lt
 go_enter Tryz.func175, Tryz.ntmps175
 go_wp2_with fail
 generalize w.alloc (.cells #[.int .i64 x, .int .i64 y, .slice a n cap] 121) = W at hA X k0 k1 k2 zA hr' ⊢
 refine (specRecOk_any _ _ _ _ _ _ zs hz hr' hn).mono ?_
 rintro e w1 ⟨rfl, b1⟩
 have X1 := X.below b1 zA
 have B1 := Below.andThen hA b1
 have r1 := hr'.below b1
 clear k0 k1 k2 X b1 hA zA hr' hr
 obtain ⟨k0, k1, k2⟩ := X1.cells3
 by_cases hx : recB x y zs = true
 . have HX := hidden (putR_of hx)
   obtain ⟨_, _, ⟨hn2, hn4⟩, _⟩ := recB_of.1 hx
   rcases r1.cases with h0 | ⟨b, off, rfl, hb, _⟩
   . omega
   have hB2 := new_below w1 (.cells #[.int .i64 21322, .int .i64 x, .int .i64 y, .int .i64 n] 3)
   have k2' := (hB2.cell (p := ⟨w.heap.size, 2, none⟩) X1.lt).trans k2
   have r2 := r1.below hB2
   have hO : Owns .i64 3 (w1.alloc (.cells #[.int .i64 21322, .int .i64 x, .int .i64 y, .int .i64 n] 3)) w1.heap.size (.slice (some ⟨w1.heap.size, 0, none⟩) 4 4) [21322, x, y, n] := Owns.lit .i64 3 w1 [21322, x, y, n] 4 _ rfl rfl (by unfold maxLen; omega)
   obtain ⟨i0, hi, hz0, hz1, hz2⟩ := info_parts Tryz.info3
   go_wp2_with (at_builtin; refine wpList_app .i64 rfl _ _ 30 rfl w1.heap.size 3 i0 (.int .i64 0) 8 Tryz.underlying30 hi hz0 hz1 hz2 rfl _ [21322, x, y, (n : Int)] rfl hO ⟨b, off, none⟩ n cap zs rfl hz r2 (by unfold maxLen; simp; omega) (by simp; omega) (by simp) ?_; intro v' w2 ho2 hb2; obtain ⟨a1, c1, hv1, _⟩ := ho2.shape; rw [show ([21322, x, y, (n : Int)] ++ zs).length = n + 4 by simp; omega] at hv1; subst hv1)
   go_ret
   refine ⟨_, _, _, rfl, ?_, B1.trans ((hB2.trans hb2).mono B1.size)⟩
   rw [HX.out, hz]
   exact (own_ints ho2).widen B1.size (Nat.le_refl _)
 . have hx' : recB x y zs = false := by simpa using hx
   have HX := hidden (putR_not hx')
   go_wp2
   go_ret
   refine ⟨_, _, _, rfl, ?_, B1.alloc B1.size _⟩
   rw [HX.out]
   exact (own_ints (Owns.lit .i64 3 w1 [] 0 #[] rfl rfl (by unfold maxLen; omega))).widen B1.size (Nat.le_refl _)

theorem implPutRec_any (w : World) (x y : Int) (a : Option Addr) (n cap : Nat) (zs : List Int) (hz : zs.length = n) (hr : Reads .i64 w a zs) (hn : n <= 2097152) :
 Calls Tryz.prog 213 #[.agg #[.int .i64 x, .int .i64 y, .slice a n cap]] w fun e w' => ∃ a l c, e = .returned (.slice a l c) /\ tIntS.Own w' w.heap.size w'.heap.size [.slice a l c] (putR x y zs) /\ Below w.heap.size w w' := by
 have hA := new_below w (.cells #[.int .i64 x, .int .i64 y, .slice a n cap] 121)
 have X := Box.new w 121 #[.int .i64 x, .int .i64 y, .slice a n cap]
 have hr' := hr.below hA
 obtain ⟨k0, k1, k2⟩ := X.cells3
 have zA := X.lt
 go_enter Tryz.func213, Tryz.ntmps213
 go_wp2_with fail
 generalize w.alloc (.cells #[.int .i64 x, .int .i64 y, .slice a n cap] 121) = W at hA X k0 k1 k2 zA hr' ⊢
 refine (implRecOk_any _ _ _ _ _ _ zs hz hr' hn).mono ?_
 rintro e w1 ⟨rfl, b1⟩
 have X1 := X.below b1 zA
 have B1 := Below.andThen hA b1
 have r1 := hr'.below b1
 clear k0 k1 k2 X b1 hA zA hr' hr
 obtain ⟨k0, k1, k2⟩ := X1.cells3
 by_cases hx : recB x y zs = true
 . have HX := hidden (putR_of hx)
   obtain ⟨_, _, ⟨hn2, hn4⟩, _⟩ := recB_of.1 hx
   rw [hz] at hn2 hn4
   obtain ⟨i0, hi, hz0, hz1, hz2⟩ := info_parts Tryz.info3
   have hb3 : i0.bytes * (4 + n) <= 281474976710656 := by rw [hz2]; omega
   have hm3 : 4 + n <= maxLen := by unfold maxLen; omega
   have hwr : IntKind.i64.wrap (4 + (n : Int)) = 4 + (n : Int) := IntWalk.i64_in _ (by omega)
   go_wp2_with (at_make; refine wpList_make_full _ rfl _ _ 30 rfl w1.heap.size 3 i0 (.int .i64 0) 1 Tryz.underlying30 hi hz0 hz1 _ _ _ _ (4 + n) rfl rfl rfl rfl hb3 hm3 (Nat.le_refl _) ?_; intro w2 hown hgrow)
   have hc0 : cutO 0 (4 + n) = 4 := by unfold cutO; rw [if_neg (by omega)]
   have hsub : 4 + n - 4 = n := by omega
   have o2 : Owns .i64 3 w2 w1.heap.size (.slice (some ⟨w1.heap.size, 0, none⟩) (4 + n) (4 + n)) (List.replicate (4 + n) (0 : Int)) := by
    rw [made_ints] at hown
    unfold Owns
    rw [List.length_replicate]
    exact hown
   have hg2 : Below w1.heap.size w1 w2 := (Below.refl _ _).grown hgrow (Nat.le_refl _) (by simp)
   refine (cutSlot_any _ _ _ _ _ (by omega) (Nat.le_refl _) (by omega)).mono ?_
   rintro e w3 ⟨rfl, hs3⟩
   rw [hc0, hsub]
   have g3 := Below.andSame hg2 hs3
   have X3 := (X1.below g3 X1.lt)
   rcases r1.cases with h0 | ⟨b, off, rfl, hb1, _⟩
   . omega
   have r3 := (r1.below g3)
   have B3 := Below.andThen B1 g3
   have z3 := g3.size
   have O3 : Own .i64 3 w3.drew w1.heap.size w2.heap.size (.slice (some ⟨w1.heap.size, 0, none⟩) (4 + n) (4 + n)) (List.replicate (4 + n) (0 : Int)) := (o2.own.same hs3.drew)
   clear o2 hown hgrow hs3 hg2 g3 k0 k1 k2 r1 hi hz0 hz1 hz2 hb3 hm3 hwr hc0 hsub
   have zX := X1.lt
   clear X1
   obtain ⟨k0, k1, k2⟩ := X3.cells3
   obtain ⟨hcp, O8, t8⟩ := put_stores (x0 := 21322) (x1 := x) (x2 := y) (x3 := n) (cap := cap) O3 hz r3.draw hb1 z3
   obtain ⟨c0, f0⟩ : w3.cell? ⟨w1.heap.size, 0, none⟩ = some (.int .i64 0) /\ w3.frozen? ⟨w1.heap.size, 0, none⟩ = false := zeros_cell O3 0 (by omega)
   obtain ⟨c1, f1⟩ : w3.cell? ⟨w1.heap.size, 1, none⟩ = some (.int .i64 0) /\ w3.frozen? ⟨w1.heap.size, 1, none⟩ = false := zeros_cell O3 1 (by omega)
   obtain ⟨c2, f2⟩ : w3.cell? ⟨w1.heap.size, 2, none⟩ = some (.int .i64 0) /\ w3.frozen? ⟨w1.heap.size, 2, none⟩ = false := zeros_cell O3 2 (by omega)
   obtain ⟨c3, f3⟩ : w3.cell? ⟨w1.heap.size, 3, none⟩ = some (.int .i64 0) /\ w3.frozen? ⟨w1.heap.size, 3, none⟩ = false := zeros_cell O3 3 (by omega)
   have o9 := hidden O8
   have b9 := hidden (B3.drew.trans (t8.below (B := w.heap.size) (by omega) B3.size))
   clear O8 t8 O3 r3
   have hcp' : ∀ ty, (Builtin.copy_ #[30, 30] ty #[.slice (some ⟨w1.heap.size, 4, none⟩) n n, .slice (some ⟨b, off, none⟩) n cap]).run Tryz.prog (stored4 w3 w1.heap.size (.int .i64 21322) (.int .i64 x) (.int .i64 y) (.int .i64 n)).drew = .ok (goInt n) ((stored4 w3.drew w1.heap.size (.int .i64 21322) (.int .i64 x) (.int .i64 y) (.int .i64 n)).setCells w1.heap.size 4 (zs.map (Value.int .i64))) := hcp
   clear hcp
   generalize (stored4 w3.drew w1.heap.size (.int .i64 21322) (.int .i64 x) (.int .i64 y) (.int .i64 n)).setCells w1.heap.size 4 (zs.map (Value.int .i64)) = w9 at hcp' o9 b9
   unfold stored4 at hcp'
   have hne : ¬ w1.heap.size = w.heap.size := by omega
   have hne' : ¬ w.heap.size = w1.heap.size := by omega
   go_wp2_with fail
   go_region_held3 (fun w' => w'.cell? ⟨w.heap.size, 0, none⟩ = some (.int .i64 x) /\ w'.cell? ⟨w.heap.size, 1, none⟩ = some (.int .i64 y) /\ w'.cell? ⟨w.heap.size, 2, none⟩ = some (.slice (some ⟨b, off, none⟩) n cap)) (first | (exact ⟨k0, k1, k2⟩) | go_keep) (fail)
   go_wp2
   go_ret
   refine ⟨_, _, _, rfl, ?_, b9.out⟩
   rw [HX.out, hz]
   exact (own_ints o9.out.1).widen B1.size (Nat.le_refl _)
 . have hx' : recB x y zs = false := by simpa using hx
   have HX := hidden (putR_not hx')
   go_wp2
   go_ret
   refine ⟨_, _, _, rfl, ?_, B1.alloc B1.size _⟩
   rw [HX.out]
   exact (own_ints (Owns.lit .i64 3 w1 [] 0 #[] rfl rfl (by unfold maxLen; omega))).widen B1.size (Nat.le_refl _)

def recsS (q : ArrN × List MemD) (n : Int) (s : List Int) (j : Nat) : ArrN × List MemD := (List.range j).foldl (fun q i => putS q i n s) q
def recS (q : ArrN × List MemD) (y z : Int) (zs : List Int) : ArrN × List MemD := syncS (recsS q (slotN y) (putR y z zs) q.2.length) q.2.length
theorem recsS_succ (q : ArrN × List MemD) (n : Int) (s : List Int) (j : Nat) : recsS q n s (j + 1) = putS (recsS q n s j) j n s := by unfold recsS; rw [List.range_succ, List.foldl_append]; rfl
theorem recsS_keeps {q : ArrN × List MemD} (n : Int) (s : List Int) (h : MsOk q.2) (hf : q.1.fuse <= 1000) : ∀ j, MsOk (recsS q n s j).2 /\ SameN q.1 (recsS q n s j).1 /\ (recsS q n s j).2.length = q.2.length
 | 0 => ⟨h, SameN.refl hf, rfl⟩
 | j + 1 => by
  obtain ⟨h1, h2, h3⟩ := recsS_keeps n s h hf j
  rw [recsS_succ]
  exact ⟨putS_ok h1, h2.trans (doS_same _ _ h2.2.2.2.2.2.2.2.2.2.1), by unfold putS; rw [doS_len]; exact h3⟩
theorem putR_len (x y : Int) (zs : List Int) : (putR x y zs).length <= zs.length + 4 := by unfold putR; split <;> simp

theorem l7Rec_any (w : World) (B : Nat) (x : ArrN) (ms : List MemD) (ds : List (Int × List Int)) (fm fd : List Nat) (h : ArrAt w B x ms ds fm fd) (hf : x.fuse <= 1000) (hM : MsOk ms) (y z : Int) (ar : Option Addr) (nr cr : Nat) (zs : List Int) (fr : List Nat) (h5 : tIntS.Mine w [.slice ar nr cr] zs fr) (h5B : B ∉ fr) (h5f : ∀ b ∈ fr, b ∉ fm) (hnr : nr <= 2000000) :
 Calls Tryz.prog 120 #[.pointer (some ⟨B, 0, none⟩), .agg #[.int .i64 y, .int .i64 z, .slice ar nr cr]] w fun e w' => e = .returned (.tuple #[]) /\ ∃ fm', ArrAt w' B (recS (x, ms) y z zs).1 (recS (x, ms) y z zs).2 ds fm' fd /\ Moved B fm w fm' w' := by
 have hzl := (row_length h5.rd).1
 have HK : Hid (∀ j, _) := fun j => recsS_keeps (q := (x, ms)) (slotN y) (putR y z zs) hM hf j
 have HRK : Hid (recS (x, ms) y z zs = syncS (recsS (x, ms) (slotN y) (putR y z zs) ms.length) ms.length) := rfl
 obtain ⟨P, hPP⟩ : ∃ P, putR y z zs = P := ⟨_, rfl⟩
 have hPl : P.length <= nr + 4 := by rw [← hPP, ← hzl]; exact putR_len y z zs
 have HPP := hidden hPP
 rw [hPP] at HK HRK
 clear hPP
 have hA := new_below w (.cells #[.int .i64 y, .int .i64 z, .slice ar nr cr] 121)
 have YB := Box.new w 121 #[.int .i64 y, .int .i64 z, .slice ar nr cr]
 have zY := YB.lt
 have zB := h.lt
 have hlm := h.ltm.1
 have hlr := h5.lt
 have A0 := hidden (h.below hA)
 have M5 := hidden (h5.below hA)
 have BA := hidden hA
 have hmx : ∃ cm0, ms.length <= cm0 /\ cm0 <= 9223372036854775807 := by
  obtain ⟨_, _, cm0, _, _, hm0, _⟩ := h
  exact ⟨cm0, (row_length hm0.rd).2⟩
 obtain ⟨cm0, hmx⟩ := hmx
 go_enter Tryz.func120, Tryz.ntmps120
 go_wp2
 have zW : (w.alloc (.cells #[.int .i64 y, .int .i64 z, .slice ar nr cr] 121)).heap.size = w.heap.size + 1 := by simp
 have YH := hidden YB
 clear YB hA
 generalize w.alloc (.cells #[.int .i64 y, .int .i64 z, .slice ar nr cr] 121) = W at A0 M5 BA YH zY zW ⊢
 go_loopw [4] (fun i wr => ∃ (j : Nat) (fm1 : List Nat), j <= ms.length /\ i = .int .i64 j /\ ArrAt wr B (recsS (x, ms) (slotN y) P j).1 (recsS (x, ms) (slotN y) P j).2 ds fm1 fd /\ Moved B fm W fm1 wr) (fun i _ => ms.length - (intOf i).toNat)
 case atStart => exact ⟨0, fm, Nat.zero_le _, rfl, A0.out, Moved.refl _ _ _⟩
 case round =>
  obtain ⟨j, fm1, hj, rfl, hA, hMv⟩ := hrel
  obtain ⟨hMj, hsj, hlj⟩ := HK.out j
  have hfj := hsj.2.2.2.2.2.2.2.2.2.1
  have HS := hidden (recsS_succ (x, ms) (slotN y) P j)
  generalize hst : recsS (x, ms) (slotN y) P j = st at hA hMj hsj hlj hfj HS
  have HST := hidden hst
  clear hst
  obtain ⟨y1, ns⟩ := st
  dsimp only at hA hMj hsj hlj hfj HS
  clear hsj
  have HA := hidden hA
  obtain ⟨bm, bd, cm, cd, X, hmm, hdd, hr, r1, r2⟩ := hA
  rw [hlj] at X
  unfold arrC at X
  have k3 := X.cells13.2.2.2.1
  clear hmm hdd hr r1 r2 X
  have yb := hMv.box YH.out (by omega) (fun hm => by have := hlm _ hm; omega)
  have m5 := hMv.mine M5.out h5B h5f
  have zw := hMv.size
  have zr := HA.out.lt
  by_cases hjn : j < ms.length
  . have i2 : (j : Int) < (ms.length : Int) := by omega
    obtain ⟨y0, y1', y2'⟩ := yb.cells3
    have MV := hidden hMv
    have RD := hidden ((ints_rd m5.rd).1)
    have zyb := yb.lt
    have YBH := hidden yb
    clear hMv m5 yb
    have hS : wr.drew.cell? ⟨w.heap.size, 0, none⟩ = some (.int .i64 y) /\ wr.drew.cell? ⟨w.heap.size, 1, none⟩ = some (.int .i64 z) /\ wr.drew.cell? ⟨w.heap.size, 2, none⟩ = some (.slice ar nr cr) := ⟨y0, y1', y2'⟩
    go_wp2_with fail
    refine wp_region_held_drew (S := fun w' => w'.cell? ⟨w.heap.size, 0, none⟩ = some (.int .i64 y) /\ w'.cell? ⟨w.heap.size, 1, none⟩ = some (.int .i64 z) /\ w'.cell? ⟨w.heap.size, 2, none⟩ = some (.slice ar nr cr)) (by kernel_rfl) ?_ (fun hHeld => ?_)
    . exact hS
    refine held_t 0 hHeld ?_
    refine held_t 1 hHeld ?_
    refine held_t 2 hHeld ?_
    refine held_t 3 hHeld ?_
    refine held_t 5 hHeld ?_
    refine held_one (i := 4) (by kernel_rfl) rfl (by kernel_rfl) (fun K hK => ?_)
    go_simp
    refine (specSlotOf_any _ _).mono ?_
    rintro e w9 ⟨rfl, h9⟩
    subst h9
    go_wp2_with fail
    clear hHeld
    refine hK.out _ _ ?_ (fun hHeld => ?_)
    . exact hS
    clear hK K
    refine held_one (i := 6) (by kernel_rfl) rfl (by kernel_rfl) (fun K hK => ?_)
    go_simp
    refine (specPutRec_any _ y z _ _ _ zs hzl RD.out.draw (by omega)).mono ?_
    rintro e w2 ⟨ap, lp, cp, rfl, o2, b2'⟩
    have b2 : Below wr.heap.size wr w2 := (Below.refl wr.heap.size wr).drew.trans b2'
    have o2b : tIntS.Own w2 wr.heap.size w2.heap.size [.slice ap lp cp] P := by rw [← HPP.out]; exact o2
    obtain ⟨fpp, mp, rp⟩ := o2b.mine
    have hlp : lp <= 2000004 := by have h1 := (row_length o2b.rd).1; omega
    have hS2 : w2.cell? ⟨w.heap.size, 0, none⟩ = some (.int .i64 y) /\ w2.cell? ⟨w.heap.size, 1, none⟩ = some (.int .i64 z) /\ w2.cell? ⟨w.heap.size, 2, none⟩ = some (.slice ar nr cr) := ⟨(b2.cell (p := ⟨w.heap.size, 0, none⟩) zyb).trans y0, (b2.cell (p := ⟨w.heap.size, 1, none⟩) zyb).trans y1', (b2.cell (p := ⟨w.heap.size, 2, none⟩) zyb).trans y2'⟩
    have A2 := hidden (HA.out.below b2)
    have LT := hidden HA.out.ltm
    have MV2 := hidden (MV.out.below b2)
    have YB2 := hidden (YBH.out.below b2 zyb)
    have MP := hidden mp
    have RP := hidden rp
    have z2 := b2.size
    clear y0 y1' y2' o2 o2b b2 b2' mp rp MV HA YBH RD
    go_wp2_with fail
    clear hHeld
    refine hK.out _ _ ?_ (fun hHeld => ?_)
    . exact hS2
    clear hK K
    refine held_one (i := 7) (by kernel_rfl) rfl (by kernel_rfl) (fun K hK => ?_)
    go_simp
    refine (l7Put_any _ B y1 ns ds fm1 fd A2.out hfj hMj j (by omega) _ _ _ _ P fpp MP.out (fun hm => by have := RP.out _ hm; omega) (fun b hb hm => by have h1 := RP.out b hb; have h2 := LT.out.1 b hm; omega) (by omega)).mono ?_
    rintro e w3 ⟨rfl, fm3, hA3, hMv3⟩
    have HM3 := hidden (MV2.out.trans hMv3)
    have YB3 := HM3.out.box YH.out (by omega) (fun hm => by have := hlm _ hm; omega)
    have hS3 : w3.cell? ⟨w.heap.size, 0, none⟩ = some (.int .i64 y) /\ w3.cell? ⟨w.heap.size, 1, none⟩ = some (.int .i64 z) /\ w3.cell? ⟨w.heap.size, 2, none⟩ = some (.slice ar nr cr) := YB3.cells3
    have HA3 : Hid (ArrAt w3 B (recsS (x, ms) (slotN y) P (j + 1)).1 (recsS (x, ms) (slotN y) P (j + 1)).2 ds fm3 fd) := by unfold Hid; rw [HS.out]; exact hA3
    clear hA3 hMv3 A2 MV2 MP RP LT hS2 YB2 YB3
    go_wp2_with fail
    clear hHeld
    refine hK.out _ _ ?_ (fun hHeld => ?_)
    . exact hS3
    clear hK K
    refine wpAnyH_done (by kernel_rfl) ?_ _
    clear hHeld
    clear hS hS3
    go_wp2
    go_roundw
    case rel => exact ⟨j + 1, fm3, by omega, by go_num, HA3.out, HM3.out⟩
    case measure => simp [intOf]; omega
  . have ej : j = ms.length := by omega
    subst ej
    have HMV := hidden (((Moved.refl B fm w).below BA.out).trans hMv)
    clear hMv m5 yb
    go_wp2_with fail
    refine (l7Sync_any _ B y1 ns ds fm1 fd HA.out hfj hMj).mono ?_
    rintro e w3 ⟨rfl, fm3, hA3, hMv3⟩
    clear k3
    go_wp2
    refine bodyPost_end (v := .tuple #[]) (results_none rfl _ _ _) rfl ?_
    exact ⟨rfl, fm3, by rw [HRK.out, HST.out, ← hlj]; exact hA3, HMV.out.trans hMv3⟩

def liveL (x : ArrN) (ms : List MemD) (s p : Int) (zs : List Int) (j : Nat) : List DOp := ((List.range j).filter fun i : Nat => liveB x ms (i : Int) s).map fun i : Nat => wrK (dataN s) [dataW x.n p zs i] i
theorem liveL_succ (x : ArrN) (ms : List MemD) (s p : Int) (zs : List Int) (j : Nat) : liveL x ms s p zs (j + 1) = liveL x ms s p zs j ++ (if liveB x ms (j : Int) s = true then [wrK (dataN s) [dataW x.n p zs j] j] else []) := by
 unfold liveL
 rw [List.range_succ, List.filter_append, List.map_append]
 cases h : liveB x ms (j : Int) s <;> simp [h]
theorem liveL_len (x : ArrN) (ms : List MemD) (s p : Int) (zs : List Int) (j : Nat) : (liveL x ms s p zs j).length <= j := by
 unfold liveL
 rw [List.length_map]
 exact Nat.le_trans (List.length_filter_le _ _) (by rw [List.length_range]; exact Nat.le_refl _)
theorem live_flag {x : ArrN} {ms : List MemD} {i : Nat} {s : Int} (h : liveB x ms (i : Int) s = true) : i < ms.length /\ flagAt ms i = false := by
 unfold liveB at h
 simp only [Bool.and_eq_true, inB_iff, Bool.not_eq_true'] at h
 refine ⟨by omega, ?_⟩
 have := h.2.1
 rw [Int.toNat_natCast] at this
 exact this
theorem liveL_mem {x : ArrN} {ms : List MemD} {s p : Int} {zs : List Int} {j : Nat} {o : DOp} (h : o ∈ liveL x ms s p zs j) : o.1 < ms.length /\ flagAt ms o.1 = false := by
 unfold liveL at h
 obtain ⟨i, hi, rfl⟩ := List.mem_map.1 h
 exact live_flag (List.mem_filter.1 hi).2
theorem live_same {x y : ArrN} {ms ns : List MemD} {i : Nat} {s : Int} (h1 : y.lost = x.lost) (h2 : y.built = x.built) (h3 : ns.length = ms.length) (h4 : flagAt ns i = flagAt ms i) : liveB y ns (i : Int) s = liveB x ms (i : Int) s := by
 have e : ∀ l : List MemD, (l.getD (i : Int).toNat ([], [], false, [])).2.2.1 = flagAt l i := fun l => by rw [Int.toNat_natCast]; rfl
 unfold liveB
 rw [e, e, h1, h2, h3, h4]
theorem run_live {q : ArrN × List MemD} (h : MsOk q.2) (hf : q.1.fuse <= 1000) (s p : Int) (zs : List Int) : ∀ j, runS q (liveL q.1 q.2 s p zs j) = datasS q s p zs j
 | 0 => rfl
 | j + 1 => by
  have ih := run_live h hf s p zs j
  obtain ⟨_, hs, hl⟩ := datasS_keeps s p zs h hf j
  have hfl : flagAt (datasS q s p zs j).2 j = flagAt q.2 j := by rw [← ih]; exact runS_flag _ _ _
  have hlv := live_same (s := s) hs.2.2.2.1 hs.2.2.2.2.1 hl hfl
  rw [liveL_succ, runS_app, ih, datasS_succ, hlv, hs.2.1]
  cases hb : liveB q.1 q.2 (j : Int) s
  . rw [if_neg (by simp), if_neg (by simp)]
    rfl
  . rw [if_pos rfl, if_pos rfl]
    rfl
theorem run_recs (q : ArrN × List MemD) (n : Int) (s : List Int) (j : Nat) : runS q (opsL (wrK n s) q.2 j) = recsS q n s j := run_list (fun _ => rfl) q j

def wr1 (q : ArrN × List MemD) : ArrN × List MemD := if 4 <= q.1.seq - q.1.tail then checkS q else q
def wr2 (q : ArrN × List MemD) (s : Int) (zs : List Int) : ArrN × List MemD := recS q q.1.seq s zs
def wr3 (q : ArrN × List MemD) (s : Int) (zs : List Int) : ArrN × List MemD := datasS ({q.1 with seq := q.1.seq + 1}, q.2) s (parN q.1.n q.1.s s) zs q.2.length
def wrRest (q : ArrN × List MemD) (s : Int) (zs : List Int) : ArrN × List MemD := if (wr2 q s zs).1.down = true then wr2 q s zs else wr3 (wr2 q s zs) s zs
def writeA (q : ArrN × List MemD) (s : Int) (zs : List Int) : ArrN × List MemD := if (wr1 q).1.down = true then wr1 q else wrRest (wr1 q) s zs
def codeN (x : ArrN) (ms : List MemD) (ds : List (Int × List Int)) (s : Int) (zs : List Int) : Int :=
 if (arrB x ms ds && (decide ((zs.length : Int) = x.n - 1) && allW zs)) = false then 1 else if x.down = true then 6 else if inB s 0 (x.s - 1) = false then 2 else if x.broken = true then 5 else if x.seq = 60000 ∨ 59990 <= x.gen then 7 else 0
def stripeO (x : ArrN) (ms : List MemD) (ds : List (Int × List Int)) (s : Int) (zs : List Int) : ArrN × List MemD := if codeN x ms ds s zs = 0 then writeA (x, ms) s zs else (x, ms)
def stripeC (x : ArrN) (ms : List MemD) (ds : List (Int × List Int)) (s : Int) (zs : List Int) : Int := if codeN x ms ds s zs = 0 then (if (writeA (x, ms) s zs).1.down = true then 6 else 0) else codeN x ms ds s zs
theorem code_good {x : ArrN} {ms : List MemD} {ds : List (Int × List Int)} {s : Int} {zs : List Int} (h : codeN x ms ds s zs = 0) : arrB x ms ds = true /\ (zs.length : Int) = x.n - 1 /\ allW zs = true /\ x.down = false /\ inB s 0 (x.s - 1) = true /\ x.broken = false /\ ¬ x.seq = 60000 /\ x.gen < 59990 := by
 unfold codeN at h
 split at h
 . cases h
 . rename_i h1
   split at h
   . cases h
   . rename_i h2
     split at h
     . cases h
     . rename_i h3
       split at h
       . cases h
       . rename_i h4
         split at h
         . cases h
         . rename_i h5
           simp only [Bool.not_eq_false, Bool.and_eq_true, decide_eq_true_eq] at h1
           refine ⟨h1.1, h1.2.1, h1.2.2, by simpa using h2, by simpa using h3, by simpa using h4, fun e => h5 (.inl e), ?_⟩
           have : ¬ 59990 <= x.gen := fun e => h5 (.inr e)
           omega
def Fit (q q' : ArrN × List MemD) : Prop := MsOk q'.2 /\ q'.2.length = q.2.length /\ q'.1.n = q.1.n /\ q'.1.s = q.1.s /\ q'.1.seq = q.1.seq /\ q'.1.fuse <= 1000
theorem Fit.trans {a b c : ArrN × List MemD} (h : Fit a b) (k : Fit b c) : Fit a c := ⟨k.1, k.2.1.trans h.2.1, k.2.2.1.trans h.2.2.1, k.2.2.2.1.trans h.2.2.2.1, k.2.2.2.2.1.trans h.2.2.2.2.1, k.2.2.2.2.2⟩
theorem fit_same {q q' : ArrN × List MemD} (h1 : MsOk q'.2) (h2 : SameN q.1 q'.1) (h3 : q'.2.length = q.2.length) : Fit q q' := ⟨h1, h3, h2.2.1, h2.2.2.1, h2.2.2.2.2.2.1, h2.2.2.2.2.2.2.2.2.2.1⟩
theorem fit_sync {q : ArrN × List MemD} (h : MsOk q.2) (hf : q.1.fuse <= 1000) (j : Nat) : Fit q (syncS q j) := by
 obtain ⟨a, b, c⟩ := syncS_keeps h hf j
 exact fit_same a b c
theorem fit_mark {q : ArrN × List MemD} (h : MsOk q.2) (hf : q.1.fuse <= 1000) : Fit q (markS q) := by
 obtain ⟨a, b, c⟩ := supsS_keeps (q := ({q.1 with gen := q.1.gen + 1}, q.2)) h hf q.2.length
 have h1 := fit_same (q := ({q.1 with gen := q.1.gen + 1}, q.2)) a b c
 exact Fit.trans (show Fit q (supsS ({q.1 with gen := q.1.gen + 1}, q.2) q.2.length) from h1) (fit_sync a h1.2.2.2.2.2 _)
theorem fit_check {q : ArrN × List MemD} (h : MsOk q.2) (hf : q.1.fuse <= 1000) : Fit q (checkS q) := by
 have h1 := fit_sync h hf q.2.length
 unfold checkS
 split
 . exact h1
 . exact h1.trans (fit_mark (q := ({(syncS q q.2.length).1 with tail := (syncS q q.2.length).1.seq}, (syncS q q.2.length).2)) h1.1 h1.2.2.2.2.2)
theorem fit_wr1 {q : ArrN × List MemD} (h : MsOk q.2) (hf : q.1.fuse <= 1000) : Fit q (wr1 q) := by
 unfold wr1
 split
 . exact fit_check h hf
 . exact ⟨h, rfl, rfl, rfl, rfl, hf⟩
theorem fit_recs {q : ArrN × List MemD} (h : MsOk q.2) (hf : q.1.fuse <= 1000) (n : Int) (s : List Int) (j : Nat) : Fit q (recsS q n s j) := by
 obtain ⟨a, b, c⟩ := recsS_keeps n s h hf j
 exact fit_same a b c
theorem fit_wr2 {q : ArrN × List MemD} (h : MsOk q.2) (hf : q.1.fuse <= 1000) (s : Int) (zs : List Int) : Fit q (wr2 q s zs) := by
 have h1 := fit_recs h hf (slotN q.1.seq) (putR q.1.seq s zs) q.2.length
 exact h1.trans (fit_sync h1.1 h1.2.2.2.2.2 _)
theorem writeA_keeps {q : ArrN × List MemD} (h : MsOk q.2) (hf : q.1.fuse <= 1000) (s : Int) (zs : List Int) : MsOk (writeA q s zs).2 /\ (writeA q s zs).2.length = q.2.length := by
 have h1 := fit_wr1 h hf
 unfold writeA
 split
 . exact ⟨h1.1, h1.2.1⟩
 . have h2 := h1.trans (fit_wr2 h1.1 h1.2.2.2.2.2 s zs)
   unfold wrRest
   split
   . exact ⟨h2.1, h2.2.1⟩
   . obtain ⟨a, _, c⟩ := datasS_keeps (q := ({(wr2 (wr1 q) s zs).1 with seq := (wr2 (wr1 q) s zs).1.seq + 1}, (wr2 (wr1 q) s zs).2)) s (parN (wr2 (wr1 q) s zs).1.n (wr2 (wr1 q) s zs).1.s s) zs h2.1 h2.2.2.2.2.2 (wr2 (wr1 q) s zs).2.length
     exact ⟨a, c.trans h2.2.1⟩

theorem putD_len9 (x : Sup) : (putD x).length <= 9 := by unfold putD; split <;> simp

theorem l7Mark_any (w : World) (B : Nat) (x : ArrN) (ms : List MemD) (ds : List (Int × List Int)) (fm fd : List Nat) (h : ArrAt w B x ms ds fm fd) (hf : x.fuse <= 1000) (hM : MsOk ms) (hg0 : 0 <= x.gen) (hg1 : x.gen <= 60000) :
 Calls Tryz.prog 66 #[.pointer (some ⟨B, 0, none⟩)] w fun e w' => e = .returned (.tuple #[]) /\ ∃ fm', ArrAt w' B (markS (x, ms)).1 (markS (x, ms)).2 ds fm' fd /\ Moved B fm w fm' w' := by
 obtain ⟨x1, hx1⟩ : ∃ x1 : ArrN, x1 = {x with gen := x.gen + 1} := ⟨_, rfl⟩
 have hf1 : x1.fuse <= 1000 := by rw [hx1]; exact hf
 have hgen : x1.gen = x.gen + 1 := by rw [hx1]
 have hgw : IntKind.i64.wrap (x.gen + 1) = x.gen + 1 := IntWalk.i64_in _ (by omega)
 have HK : Hid (∀ j, _) := fun j => supsS_keeps (q := (x1, ms)) hM hf1 j
 have HMK : Hid (markS (x, ms) = syncS (supsS (x1, ms) ms.length) ms.length) := by rw [hx1]; rfl
 obtain ⟨bm0, bd0, cm0, cd0, X0, hm0, hd0, hr0, r10, r20⟩ := h
 have hmx := (row_length hm0.rd).2
 have A1 : Hid (ArrAt (w.setCell ⟨B, 8, none⟩ (.int .i64 (x.gen + 1))) B x1 ms ds fm fd) := by
  unfold Hid
  rw [hx1]
  exact ⟨bm0, bd0, cm0, cd0, X0.set 8 (.int .i64 (x.gen + 1)), hm0.setCell (g := B) (j := 8) r10 _, hd0.setCell (g := B) (j := 8) r20 _, hr0, r10, r20⟩
 have M1 := hidden (Moved.set (B := B) (j := 8) (fm := fm) (w := w) (.int .i64 (x.gen + 1)))
 unfold arrC at X0
 obtain ⟨k0, k1, k2, k3, k4, k5, k6, k7, k8, k9, k10, k11, k12⟩ := X0.cells13
 have fz := X0.frozen
 have hgn : 0 <= x1.gen /\ x1.gen <= 60001 := by omega
 clear X0 hm0 hd0 hr0 r10 r20 hx1 hgen
 go_enter Tryz.func66, Tryz.ntmps66
 go_wp2
 generalize w.setCell ⟨B, 8, none⟩ (.int .i64 (x.gen + 1)) = W at A1 M1 ⊢
 clear k0 k1 k2 k3 k4 k5 k6 k7 k8 k9 k10 k11 k12 fz
 go_loopw [2] (fun i wr => ∃ (j : Nat) (fm1 : List Nat), j <= ms.length /\ i = .int .i64 j /\ ArrAt wr B (supsS (x1, ms) j).1 (supsS (x1, ms) j).2 ds fm1 fd /\ Moved B fm w fm1 wr) (fun i _ => ms.length - (intOf i).toNat)
 case atStart => exact ⟨0, fm, Nat.zero_le _, rfl, A1.out, M1.out⟩
 case round =>
  clear A1 M1
  obtain ⟨j, fm1, hj, rfl, hA, hMv⟩ := hrel
  obtain ⟨hMj, hsj, hlj⟩ := HK.out j
  have hfj := hsj.2.2.2.2.2.2.2.2.2.1
  have hgj := hsj.2.2.2.2.2.2.2.1
  have HS := hidden (supsS_succ (x1, ms) j)
  generalize hst : supsS (x1, ms) j = st at hA hMj hsj hlj hfj hgj HS
  have HST := hidden hst
  clear hst
  obtain ⟨y, ns⟩ := st
  dsimp only at hA hMj hsj hlj hfj hgj HS
  have hgy : 0 <= y.gen /\ y.gen <= 60001 := by omega
  clear hgj hsj
  have HA := hidden hA
  obtain ⟨bm, bd, cm, cd, X, hmm, hdd, hr, r1, r2⟩ := hA
  rw [hlj] at X
  unfold arrC at X
  have zB := X.lt
  have XH := hidden X
  obtain ⟨k0, k1, k2, k3, k4, k5, k6, k7, k8, k9, k10, k11, k12⟩ := X.cells13
  clear hmm hdd hr r1 r2 X
  by_cases hjn : j < ms.length
  . have i2 : (j : Int) < (ms.length : Int) := by omega
    have t2 : y.gen.tmod 2 = y.gen % 2 := Int.tmod_eq_emod_of_nonneg hgy.1
    have t3 : IntKind.i64.wrap (y.gen % 2) = y.gen % 2 := IntWalk.i64_in _ (by omega)
    have t4 : ¬ (2 : Int) = 0 := by omega
    have MV := hidden hMv
    clear hMv
    have hS : wr.drew.cell? ⟨B, 0, none⟩ = some (.int .i64 y.id) /\ wr.drew.cell? ⟨B, 1, none⟩ = some (.int .i64 y.n) /\ wr.drew.cell? ⟨B, 2, none⟩ = some (.int .i64 y.s) /\ wr.drew.cell? ⟨B, 4, none⟩ = some (.int .i64 y.lost) /\ wr.drew.cell? ⟨B, 5, none⟩ = some (.int .i64 y.built) /\ wr.drew.cell? ⟨B, 7, none⟩ = some (.int .i64 y.tail) /\ wr.drew.cell? ⟨B, 8, none⟩ = some (.int .i64 y.gen) := ⟨k0, k1, k2, k4, k5, k7, k8⟩
    go_wp2_with fail
    refine wp_region_held_drew (S := fun w' => w'.cell? ⟨B, 0, none⟩ = some (.int .i64 y.id) /\ w'.cell? ⟨B, 1, none⟩ = some (.int .i64 y.n) /\ w'.cell? ⟨B, 2, none⟩ = some (.int .i64 y.s) /\ w'.cell? ⟨B, 4, none⟩ = some (.int .i64 y.lost) /\ w'.cell? ⟨B, 5, none⟩ = some (.int .i64 y.built) /\ w'.cell? ⟨B, 7, none⟩ = some (.int .i64 y.tail) /\ w'.cell? ⟨B, 8, none⟩ = some (.int .i64 y.gen)) (by kernel_rfl) ?_ (fun hHeld => ?_)
    . exact hS
    refine held_t 0 hHeld ?_
    refine held_t 1 hHeld ?_
    refine held_t 2 hHeld ?_
    refine held_t 3 hHeld ?_
    refine held_t 4 hHeld ?_
    refine held_t 5 hHeld ?_
    refine held_t 6 hHeld ?_
    refine held_t 7 hHeld ?_
    refine held_t 8 hHeld ?_
    refine held_t 9 hHeld ?_
    refine held_t 10 hHeld ?_
    refine held_t 11 hHeld ?_
    refine held_t 12 hHeld ?_
    refine held_t 13 hHeld ?_
    refine held_t 14 hHeld ?_
    refine held_t 15 hHeld ?_
    refine held_t 16 hHeld ?_
    refine held_t 17 hHeld ?_
    refine held_t 18 hHeld ?_
    refine held_t 19 hHeld ?_
    refine held_t 20 hHeld ?_
    refine held_t 21 hHeld ?_
    refine held_t 22 hHeld ?_
    refine held_t 23 hHeld ?_
    refine held_t 24 hHeld ?_
    refine held_t 25 hHeld ?_
    refine held_t 26 hHeld ?_
    refine held_t 27 hHeld ?_
    refine held_t 28 hHeld ?_
    refine held_t 29 hHeld ?_
    refine held_t 30 hHeld ?_
    refine held_t 31 hHeld ?_
    refine held_t 32 hHeld ?_
    refine held_t 33 hHeld ?_
    refine held_t 34 hHeld ?_
    refine held_t 35 hHeld ?_
    refine held_t 36 hHeld ?_
    refine held_t 37 hHeld ?_
    refine held_t 38 hHeld ?_
    refine held_one (i := 39) (by kernel_rfl) rfl (by kernel_rfl) (fun K hK => ?_)
    go_simp
    refine (specPutSuper_any _ (supA y j)).mono ?_
    rintro e w2 ⟨ap, lp, cp, rfl, o2, b2'⟩
    have b2 : Below wr.heap.size wr w2 := (Below.refl wr.heap.size wr).drew.trans b2'
    have o2b : tIntS.Own w2 wr.heap.size w2.heap.size [.slice ap lp cp] (putD (supA y j)) := o2
    obtain ⟨fpp, mp, rp⟩ := o2b.mine
    have hlp : lp <= 9 := by have h1 := (row_length o2b.rd).1; have h2 := putD_len9 (supA y j); omega
    have hS2 : w2.cell? ⟨B, 0, none⟩ = some (.int .i64 y.id) /\ w2.cell? ⟨B, 1, none⟩ = some (.int .i64 y.n) /\ w2.cell? ⟨B, 2, none⟩ = some (.int .i64 y.s) /\ w2.cell? ⟨B, 4, none⟩ = some (.int .i64 y.lost) /\ w2.cell? ⟨B, 5, none⟩ = some (.int .i64 y.built) /\ w2.cell? ⟨B, 7, none⟩ = some (.int .i64 y.tail) /\ w2.cell? ⟨B, 8, none⟩ = some (.int .i64 y.gen) := ⟨(b2.cell (p := ⟨B, 0, none⟩) zB).trans k0, (b2.cell (p := ⟨B, 1, none⟩) zB).trans k1, (b2.cell (p := ⟨B, 2, none⟩) zB).trans k2, (b2.cell (p := ⟨B, 4, none⟩) zB).trans k4, (b2.cell (p := ⟨B, 5, none⟩) zB).trans k5, (b2.cell (p := ⟨B, 7, none⟩) zB).trans k7, (b2.cell (p := ⟨B, 8, none⟩) zB).trans k8⟩
    have A2 := hidden (HA.out.below b2)
    have LT := hidden HA.out.ltm
    have MV2 := hidden (MV.out.below b2)
    have MP := hidden mp
    have RP := hidden rp
    clear k0 k1 k2 k3 k4 k5 k6 k7 k8 k9 k10 k11 k12 o2 o2b b2 b2' mp rp MV HA
    go_wp2_with fail
    clear hHeld
    refine hK.out _ _ ?_ (fun hHeld => ?_)
    . exact hS2
    clear hK K
    refine held_one (i := 40) (by kernel_rfl) rfl (by kernel_rfl) (fun K hK => ?_)
    go_simp
    refine (l7Put_any _ B y ns ds fm1 fd A2.out hfj hMj j (by omega) _ _ _ _ (putD (supA y j)) fpp MP.out (fun hm => by have := RP.out _ hm; omega) (fun b hb hm => by have h1 := RP.out b hb; have h2 := LT.out.1 b hm; omega) (by omega)).mono ?_
    rintro e w3 ⟨rfl, fm3, hA3, hMv3⟩
    have hsm : SameN y (putS (y, ns) j (y.gen % 2) (putD (supA y j))).1 := doS_same _ _ hfj
    have hS3 : w3.cell? ⟨B, 0, none⟩ = some (.int .i64 y.id) /\ w3.cell? ⟨B, 1, none⟩ = some (.int .i64 y.n) /\ w3.cell? ⟨B, 2, none⟩ = some (.int .i64 y.s) /\ w3.cell? ⟨B, 4, none⟩ = some (.int .i64 y.lost) /\ w3.cell? ⟨B, 5, none⟩ = some (.int .i64 y.built) /\ w3.cell? ⟨B, 7, none⟩ = some (.int .i64 y.tail) /\ w3.cell? ⟨B, 8, none⟩ = some (.int .i64 y.gen) := by
     obtain ⟨_, _, _, _, X3, _⟩ := hA3
     unfold arrC at X3
     obtain ⟨k0, k1, k2, k3, k4, k5, k6, k7, k8, k9, k10, k11, k12⟩ := X3.cells13
     obtain ⟨e1, e2, e3, e4, e5, e6, e7, e8, _⟩ := hsm
     rw [e1] at k0
     rw [e2] at k1
     rw [e3] at k2
     rw [e4] at k4
     rw [e5] at k5
     rw [e7] at k7
     rw [e8] at k8
     exact ⟨k0, k1, k2, k4, k5, k7, k8⟩
    have HA3 : Hid (ArrAt w3 B (supsS (x1, ms) (j + 1)).1 (supsS (x1, ms) (j + 1)).2 ds fm3 fd) := by unfold Hid; rw [HS.out]; exact hA3
    have HM3 := hidden (MV2.out.trans hMv3)
    clear hA3 hMv3 A2 MV2 MP RP LT hS2 hsm
    go_wp2_with fail
    clear hHeld
    refine hK.out _ _ ?_ (fun hHeld => ?_)
    . exact hS3
    clear hK K
    refine wpAnyH_done (by kernel_rfl) ?_ _
    clear hHeld
    clear hS hS3
    go_wp2
    go_roundw
    case rel => exact ⟨j + 1, fm3, by omega, by go_num, HA3.out, HM3.out⟩
    case measure => simp [intOf]; omega
  . have ej : j = ms.length := by omega
    subst ej
    have HMV := hidden hMv
    clear hMv
    go_wp2_with fail
    refine (l7Sync_any _ B y ns ds fm1 fd HA.out hfj hMj).mono ?_
    rintro e w3 ⟨rfl, fm3, hA3, hMv3⟩
    clear k0 k1 k2 k3 k4 k5 k6 k7 k8 k9 k10 k11 k12
    go_wp2
    refine bodyPost_end (v := .tuple #[]) (results_none rfl _ _ _) rfl ?_
    exact ⟨rfl, fm3, by rw [HMK.out, HST.out, ← hlj]; exact hA3, HMV.out.trans hMv3⟩

theorem l7Check_any (w : World) (B : Nat) (x : ArrN) (ms : List MemD) (ds : List (Int × List Int)) (fm fd : List Nat) (h : ArrAt w B x ms ds fm fd) (hf : x.fuse <= 1000) (hM : MsOk ms) (hg0 : 0 <= x.gen) (hg1 : x.gen <= 60000) :
 Calls Tryz.prog 68 #[.pointer (some ⟨B, 0, none⟩)] w fun e w' => e = .returned (.tuple #[]) /\ ∃ fm', ArrAt w' B (checkS (x, ms)).1 (checkS (x, ms)).2 ds fm' fd /\ Moved B fm w fm' w' := by
 obtain ⟨hMj, hsj, hlj⟩ := syncS_keeps (q := (x, ms)) hM hf ms.length
 have hfj := hsj.2.2.2.2.2.2.2.2.2.1
 have hgj := hsj.2.2.2.2.2.2.2.1
 have HC : Hid (checkS (x, ms) = if (syncS (x, ms) ms.length).1.down = true then syncS (x, ms) ms.length else markS ({(syncS (x, ms) ms.length).1 with tail := (syncS (x, ms) ms.length).1.seq}, (syncS (x, ms) ms.length).2)) := rfl
 go_enter Tryz.func68, Tryz.ntmps68
 go_wp2_with fail
 refine (l7Sync_any _ B x ms ds fm fd h hf hM).mono ?_
 rintro e w1 ⟨rfl, fm1, hA, hMv⟩
 generalize syncS (x, ms) ms.length = st at hA hMj hsj hlj hfj hgj HC
 obtain ⟨y, ns⟩ := st
 dsimp only at hA hMj hsj hlj hfj hgj HC
 have HA := hidden hA
 obtain ⟨bm, bd, cm, cd, X, hmm, hdd, hr, r1, r2⟩ := hA
 have X0 := X
 unfold arrC at X0
 obtain ⟨k0, k1, k2, k3, k4, k5, k6, k7, k8, k9, k10, k11, k12⟩ := X0.cells13
 have fz := X0.frozen
 cases hdn : y.down
 . rw [hdn] at k11
   have HC2 : Hid (checkS (x, ms) = markS ({y with tail := y.seq}, ns)) := by unfold Hid; rw [HC.out, if_neg (by simp [hdn])]
   have A2 : Hid (ArrAt (w1.setCell ⟨B, 7, none⟩ (.int .i64 y.seq)) B {y with tail := y.seq} ns ds fm1 fd) := ⟨bm, bd, cm, cd, X.set 7 (.int .i64 y.seq), hmm.setCell (g := B) (j := 7) r1 _, hdd.setCell (g := B) (j := 7) r2 _, hr, r1, r2⟩
   have M2 := hidden (hMv.trans (Moved.set (B := B) (j := 7) (fm := fm1) (.int .i64 y.seq)))
   clear X X0 hmm hdd hMv HA hdn
   go_wp2_with fail
   refine (l7Mark_any _ B {y with tail := y.seq} ns ds fm1 fd A2.out hfj hMj (by dsimp only; omega) (by dsimp only; omega)).mono ?_
   rintro e w3 ⟨rfl, fm3, hA3, hMv3⟩
   clear k0 k1 k2 k3 k4 k5 k6 k7 k8 k9 k10 k11 k12 fz
   go_wp2
   refine bodyPost_end (v := .tuple #[]) (results_none rfl _ _ _) rfl ?_
   exact ⟨rfl, fm3, by rw [HC2.out]; exact hA3, M2.out.trans hMv3⟩
 . rw [hdn] at k11
   have HC2 : Hid (checkS (x, ms) = (y, ns)) := by unfold Hid; rw [HC.out, if_pos hdn]
   clear X X0 hmm hdd hdn
   go_wp2
   refine bodyPost_ret (v := .tuple #[]) (by simp [results, Tryz.results68, go_sem]) rfl ?_
   exact ⟨rfl, fm1, by rw [HC2.out]; exact HA.out, hMv⟩

theorem hasDisk_any (w : World) (x : ArrN) (am ad : Option Addr) (nm cm nd cd : Nat) (m : Int) :
 Calls Tryz.prog 216 #[.agg #[.int .i64 x.id, .int .i64 x.n, .int .i64 x.s, .slice am nm cm, .int .i64 x.lost, .int .i64 x.built, .int .i64 x.seq, .int .i64 x.tail, .int .i64 x.gen, .slice ad nd cd, .int .i64 x.fuse, .bool x.down, .bool x.broken], .int .i64 m] w fun e w' => e = .returned (.bool (inB m 0 ((nm : Int) - 1))) /\ Below w.heap.size w w' := by
 have hA := new_below w (.cells #[.int .i64 x.id, .int .i64 x.n, .int .i64 x.s, .slice am nm cm, .int .i64 x.lost, .int .i64 x.built, .int .i64 x.seq, .int .i64 x.tail, .int .i64 x.gen, .slice ad nd cd, .int .i64 x.fuse, .bool x.down, .bool x.broken] 29)
 have X := Box.new w 29 #[.int .i64 x.id, .int .i64 x.n, .int .i64 x.s, .slice am nm cm, .int .i64 x.lost, .int .i64 x.built, .int .i64 x.seq, .int .i64 x.tail, .int .i64 x.gen, .slice ad nd cd, .int .i64 x.fuse, .bool x.down, .bool x.broken]
 have k3 := X.cells13.2.2.2.1
 have HI : Hid (inB m 0 ((nm : Int) - 1) = (decide (0 <= m) && decide (m < (nm : Int)))) := by
  unfold Hid inB
  congr 1
  rw [decide_eq_decide]
  omega
 by_cases h : 0 <= m
 . by_cases h2 : m < (nm : Int)
   . go_enter Tryz.func216, Tryz.ntmps216
     go_wp2
     go_ret
     exact ⟨ret_bool (by rw [HI.out]; simp [h, h2]), hA⟩
   . go_enter Tryz.func216, Tryz.ntmps216
     go_wp2
     go_ret
     exact ⟨ret_bool (by rw [HI.out]; simp [h2]), hA⟩
 . go_enter Tryz.func216, Tryz.ntmps216
   go_wp2
   go_ret
   exact ⟨ret_bool (by rw [HI.out, show decide (0 <= m) = false from (by simpa using h)]; rfl), hA⟩

def DiskV (w : World) (E : TypeId) (x : ArrN) (ms : List MemD) (j : Nat) (v : Value) : Prop :=
 ∃ (a0 a1 a3 : Option Addr) (c0 c1 c3 : Nat) (ss : List (List Int)) (cs : List (Int × List Int)) (f : Bool) (bs : List Int), ms[j]? = some (ss, cs, f, bs) /\ tIntSS.Rd w [.slice a0 ss.length c0] ss /\ (tWrS E).Rd w [.slice a1 cs.length c1] cs /\ tIntS.Rd w [.slice a3 bs.length c3] bs /\
  ((f = true /\ v = .iface 212 (.agg #[])) ∨ (f = false /\ (j : Int) = x.lost /\ v = .iface 211 (.agg #[.slice a0 ss.length c0, .slice a1 cs.length c1, .bool false, .slice a3 bs.length c3, .int .i64 x.built])) ∨ (f = false /\ ¬ (j : Int) = x.lost /\ v = .iface 209 (.agg #[.slice a0 ss.length c0, .slice a1 cs.length c1, .bool false, .slice a3 bs.length c3])))

theorem diskAt_any (w : World) (E F : TypeId) (x : ArrN) (am ad : Option Addr) (nm cm nd cd : Nat) (ms : List MemD) (j : Nat) (h0 : (tMemS E F).Rd w [.slice am nm cm] ms) (hw : wtMemS ms <= 2097152) (hj : j < nm) :
 Calls Tryz.prog 218 #[.agg #[.int .i64 x.id, .int .i64 x.n, .int .i64 x.s, .slice am nm cm, .int .i64 x.lost, .int .i64 x.built, .int .i64 x.seq, .int .i64 x.tail, .int .i64 x.gen, .slice ad nd cd, .int .i64 x.fuse, .bool x.down, .bool x.broken], .int .i64 (j : Int)] w fun e w' => ∃ v, e = .returned v /\ DiskV w' E x ms j v /\ Below w.heap.size w w' := by
 obtain ⟨hl, hc, hm⟩ := row_length h0
 have hnm : nm <= 2097152 := by unfold wtMemS at hw; omega
 have hA := new_below w (.cells #[.int .i64 x.id, .int .i64 x.n, .int .i64 x.s, .slice am nm cm, .int .i64 x.lost, .int .i64 x.built, .int .i64 x.seq, .int .i64 x.tail, .int .i64 x.gen, .slice ad nd cd, .int .i64 x.fuse, .bool x.down, .bool x.broken] 29)
 have X := Box.new w 29 #[.int .i64 x.id, .int .i64 x.n, .int .i64 x.s, .slice am nm cm, .int .i64 x.lost, .int .i64 x.built, .int .i64 x.seq, .int .i64 x.tail, .int .i64 x.gen, .slice ad nd cd, .int .i64 x.fuse, .bool x.down, .bool x.broken]
 obtain ⟨k0, k1, k2, k3, k4, k5, k6, k7, k8, k9, k10, k11, k12⟩ := X.cells13
 have h1 := h0.below hA
 have i1 : (0 : Int) <= (j : Int) := by omega
 have i2 : (j : Int) < (nm : Int) := by omega
 rcases quads_at rfl h1 with h0' | ⟨b, off, rfl, hbl, hcs⟩
 . omega
 have hdj : ms[j]? = some (ms[j]'(by omega)) := List.getElem?_eq_getElem (by omega)
 generalize ms[j]'(by omega) = d at hdj
 obtain ⟨v0, v1, v2, v3, hv0, hv1, hv2, hv3, hrv⟩ := hcs j d hdj
 obtain ⟨a0, c0, a1, c1, a3, c3, ss, cs, f, bs, rfl, rfl, rfl, rfl, rfl, r0, r1, r3⟩ := mem_at hrv
 clear hcs hrv h1 h0
 have HR := hidden (And.intro hdj (And.intro r0 (And.intro r1 r3)))
 clear hdj r0 r1 r3
 cases f
 . by_cases hjl : (j : Int) = x.lost
   . have e1 : ((j : Int) == x.lost) = true := by simpa using hjl
     have HJ := hidden hjl
     clear hjl
     go_enter Tryz.func218, Tryz.ntmps218
     go_wp2
     go_quiet (fail)
     go_wp2
     refine bodyPost_ret (v := .iface 211 (.agg #[.slice a0 ss.length c0, .slice a1 cs.length c1, .bool false, .slice a3 bs.length c3, .int .i64 x.built])) (by simp [results, Tryz.results218, go_sem]) rfl ?_
     exact ⟨_, rfl, ⟨_, _, _, _, _, _, ss, cs, false, bs, HR.out.1, HR.out.2.1.below (below_drewN (Below.refl _ _) _), HR.out.2.2.1.below (below_drewN (Below.refl _ _) _), HR.out.2.2.2.below (below_drewN (Below.refl _ _) _), .inr (.inl ⟨rfl, HJ.out, rfl⟩)⟩, below_drewN hA _⟩
   . have e1 : ((j : Int) == x.lost) = false := by simpa using hjl
     have HJ := hidden hjl
     clear hjl
     go_enter Tryz.func218, Tryz.ntmps218
     go_wp2
     refine bodyPost_ret (v := .iface 209 (.agg #[.slice a0 ss.length c0, .slice a1 cs.length c1, .bool false, .slice a3 bs.length c3])) (by simp [results, Tryz.results218, go_sem]) rfl ?_
     exact ⟨_, rfl, ⟨_, _, _, _, _, _, ss, cs, false, bs, HR.out.1, HR.out.2.1, HR.out.2.2.1, HR.out.2.2.2, .inr (.inr ⟨rfl, HJ.out, rfl⟩)⟩, hA⟩
 . go_enter Tryz.func218, Tryz.ntmps218
   go_wp2
   refine bodyPost_ret (v := .iface 212 (.agg #[])) (by simp [results, Tryz.results218, go_sem]) rfl ?_
   exact ⟨_, rfl, ⟨_, _, _, _, _, _, ss, cs, true, bs, HR.out.1, HR.out.2.1, HR.out.2.2.1, HR.out.2.2.2, .inl ⟨rfl, rfl⟩⟩, hA⟩

theorem is_sound (w : World) (v0 v1 v2 v3 : Value) : Sem.run Tryz.prog (Instr.typeAssert (.iface 209 (.agg #[v0, v1, v2, v3])) 192 209 true) w = .ok (.tuple #[.agg #[v0, v1, v2, v3], .bool true]) w := by kernel_rfl
theorem lost_sound (w : World) (v : Value) : Sem.run Tryz.prog (Instr.typeAssert (.iface 211 v) 192 209 true) w = .ok (.tuple #[.agg #[.slice none 0 0, .slice none 0 0, .bool false, .slice none 0 0], .bool false]) w := by kernel_rfl
theorem failed_sound (w : World) (v : Value) : Sem.run Tryz.prog (Instr.typeAssert (.iface 212 v) 192 209 true) w = .ok (.tuple #[.agg #[.slice none 0 0, .slice none 0 0, .bool false, .slice none 0 0], .bool false]) w := by kernel_rfl
theorem is_lost (w : World) (v0 v1 v2 v3 v4 : Value) : Sem.run Tryz.prog (Instr.typeAssert (.iface 211 (.agg #[v0, v1, v2, v3, v4])) 192 211 true) w = .ok (.tuple #[.agg #[v0, v1, v2, v3, v4], .bool true]) w := by kernel_rfl
theorem failed_lost (w : World) (v : Value) : Sem.run Tryz.prog (Instr.typeAssert (.iface 212 v) 192 211 true) w = .ok (.tuple #[.agg #[.slice none 0 0, .slice none 0 0, .bool false, .slice none 0 0, .int .i64 0], .bool false]) w := by kernel_rfl

theorem bears_sound (w : World) (a0 a1 a3 : Option Addr) (n0 c0 n1 c1 n3 c3 : Nat) (f : Bool) (s : Int) : Calls Tryz.prog 217 #[.iface 209 (.agg #[.slice a0 n0 c0, .slice a1 n1 c1, .bool f, .slice a3 n3 c3]), .int .i64 s] w fun e w' => e = .returned (.bool true) /\ Below w.heap.size w w' := by
 have hA := new_below w (.cells #[.slice a0 n0 c0, .slice a1 n1 c1, .bool f, .slice a3 n3 c3] 209)
 have s1 := is_sound w (.slice a0 n0 c0) (.slice a1 n1 c1) (.bool f) (.slice a3 n3 c3)
 go_enter Tryz.func217, Tryz.ntmps217
 go_wp2
 go_ret
 exact ⟨rfl, hA⟩
theorem bears_lost (w : World) (a0 a1 a3 : Option Addr) (n0 c0 n1 c1 n3 c3 : Nat) (f : Bool) (b s : Int) : Calls Tryz.prog 217 #[.iface 211 (.agg #[.slice a0 n0 c0, .slice a1 n1 c1, .bool f, .slice a3 n3 c3, .int .i64 b]), .int .i64 s] w fun e w' => e = .returned (.bool (decide (s < b))) /\ Below w.heap.size w w' := by
 have hA := new_below w (.cells #[.slice a0 n0 c0, .slice a1 n1 c1, .bool f, .slice a3 n3 c3, .int .i64 b] 211)
 have s1 := lost_sound w (.agg #[.slice a0 n0 c0, .slice a1 n1 c1, .bool f, .slice a3 n3 c3, .int .i64 b])
 have s2 := is_lost w (.slice a0 n0 c0) (.slice a1 n1 c1) (.bool f) (.slice a3 n3 c3) (.int .i64 b)
 go_enter Tryz.func217, Tryz.ntmps217
 go_wp2
 go_ret
 exact ⟨rfl, hA⟩
theorem bears_failed (w : World) (s : Int) : Calls Tryz.prog 217 #[.iface 212 (.agg #[]), .int .i64 s] w fun e w' => e = .returned (.bool false) /\ w' = w := by
 have s1 := failed_sound w (.agg #[])
 have s2 := failed_lost w (.agg #[])
 go_enter Tryz.func217, Tryz.ntmps217
 go_wp2
 go_ret
 exact ⟨rfl, rfl⟩

theorem wp_of_if {c : Bool} {p G : Prop} (hc : c = true) (h : if c = true then p else G) : p := by
 rw [if_pos hc] at h
 exact h
theorem ret_fin {a b : Int} {p : Prop} (h : (Ending.returned (Value.int .i64 a) = .returned (.int .i64 b)) /\ p) : (Ending.returned (Value.int .i64 a) = .returned (.int .i64 b)) /\ p := h
theorem arr_dnc {w : World} {B : Nat} {x : ArrN} {ms : List MemD} {ds : List (Int × List Int)} {fm fd : List Nat} (h : ArrAt w B x ms ds fm fd) : w.cell? ⟨B, 11, none⟩ = some (.bool x.down) /\ w.cell? ⟨B, 6, none⟩ = some (.int .i64 x.seq) /\ w.cell? ⟨B, 7, none⟩ = some (.int .i64 x.tail) /\ ∀ j, w.frozen? ⟨B, j, none⟩ = false := by
 obtain ⟨bm, bd, cm, cd, X, _⟩ := h
 have fz := X.frozen
 unfold arrC at X
 obtain ⟨k0, k1, k2, k3, k4, k5, k6, k7, k8, k9, k10, k11, k12⟩ := X.cells13
 exact ⟨k11, k6, k7, fz⟩
theorem arr_seq7 {w : World} {B : Nat} {x : ArrN} {ms : List MemD} {ds : List (Int × List Int)} {fm fd : List Nat} (h : ArrAt w B x ms ds fm fd) : ArrAt (w.setCell ⟨B, 6, none⟩ (.int .i64 (x.seq + 1))) B {x with seq := x.seq + 1} ms ds fm fd := by
 obtain ⟨bm, bd, cm, cd, X, hm, hd, hr, r1, r2⟩ := h
 exact ⟨bm, bd, cm, cd, X.set 6 _, hm.setCell r1 _, hd.setCell r2 _, hr, r1, r2⟩
def dnC (d : Bool) : Int := if d = true then 6 else 0

theorem l7Write_any (w : World) (B : Nat) (x : ArrN) (ms : List MemD) (ds : List (Int × List Int)) (fm fd : List Nat) (h : ArrAt w B x ms ds fm fd) (ha : arrB x ms ds = true) (hdn : x.down = false) (hsq : ¬ x.seq = 60000) (s : Int) (hs : inB s 0 (x.s - 1) = true) (ar : Option Addr) (cr : Nat) (zs : List Int) (fr : List Nat) (h5 : tIntS.Mine w [.slice ar zs.length cr] zs fr) (h5d : ∀ b ∈ fr, b ≠ B /\ b ∉ fm) (hz : (zs.length : Int) = x.n - 1) : Calls Tryz.prog 58 #[.pointer (some ⟨B, 0, none⟩), .int .i64 s, .slice ar zs.length cr] w fun e w' => e = .returned (.int .i64 (dnC (writeA (x, ms) s zs).1.down)) /\ ∃ fm', ArrAt w' B (writeA (x, ms) s zs).1 (writeA (x, ms) s zs).2 ds fm' fd /\ Moved B fm w fm' w' := by
 obtain ⟨fc, mk, gc0, gc1⟩ := arr_facts ha
 have hln := arr_len ha
 have hrg : 0 <= x.tail /\ x.tail <= x.seq /\ x.seq <= 60000 /\ x.seq <= x.tail + 4 /\ geoB x.n x.s = true := by
  unfold arrB seqB6 at ha
  simp only [Bool.and_eq_true, inB_iff, decide_eq_true_eq] at ha
  obtain ⟨hgeo, _, _, _, _, htl, hsq2, hst, _⟩ := ha
  exact ⟨htl.1, hsq2.1, hsq2.2, hst, hgeo⟩
 obtain ⟨t0, t1, t2, t3, hgeo⟩ := hrg
 have FT1 := hidden (fit_wr1 (q := (x, ms)) mk fc)
 have hl5 := h5.lt
 have hlB := h.lt
 have hz4 : zs.length <= 4 := by omega
 have hn5 : ms.length <= 5 := by omega
 have HLN : Hid ((ms.length : Int) = x.n /\ (zs.length : Int) = x.n - 1) := ⟨hln.2.2, hz⟩
 have HG := hidden hgeo
 have H5 := hidden h5
 have HD5 := hidden h5d
 have HS := hidden hs
 have HA0 := hidden h
 have HDN := hidden hdn
 have HC := hidden (l7Check_any w B x ms ds fm fd h fc mk gc0 gc1)
 have HSQ : Hid (0 <= x.seq /\ x.seq < 60000) := ⟨by omega, by omega⟩
 have hwq : IntKind.i64.wrap (x.seq - x.tail) = x.seq - x.tail := IntWalk.i64_in _ (by omega)
 obtain ⟨k11, k6, k7, fz0⟩ := arr_dnc h
 obtain ⟨i3, hi3, hx0, hx1, hx2⟩ := info_parts Tryz.info3
 clear h5 h5d hs hz hln hgeo hdn ha h fz0
 go_enter Tryz.func58, Tryz.ntmps58
 go_wp2_with fail
 go_quiet (fail)
 have bq : Below w.heap.size w (w.drewN nq) := ((Same.refl w).drewN nq).below _
 have HA0d := hidden (HA0.out.below bq)
 have MV0 := hidden ((Moved.refl B fm w).below bq)
 have k11d := (bq.cell (p := ⟨B, 11, none⟩) hlB).trans k11
 clear bq
 generalize w.drewN nq = wd at HA0d MV0 k11d ⊢
 have HCd := hidden (l7Check_any wd B x ms ds fm fd HA0d.out fc mk gc0 gc1)
 by_cases hfull : 4 <= x.seq - x.tail
 . have HW1 : Hid (wr1 (x, ms) = checkS (x, ms)) := by unfold Hid wr1; rw [if_pos (by dsimp only; omega)]
   rw [HW1.out] at FT1
   have e4 : decide (4 <= x.seq - x.tail) = true := by simpa using hfull
   go_wp2_with fail
   refine HCd.out.mono ?_
   rintro e w1 ⟨rfl, fm1, hA1, hMv1⟩
   have MV := hidden (MV0.out.trans hMv1)
   have HWA : Hid (writeA (x, ms) s zs = if (checkS (x, ms)).1.down = true then checkS (x, ms) else wrRest (checkS (x, ms)) s zs) := by unfold Hid writeA; rw [HW1.out]
   clear HW1 hMv1 HC HCd HA0d MV0 k11 k6 k7 hfull e4 k11d
   generalize checkS (x, ms) = st at hA1 HWA FT1
   obtain ⟨y, ns⟩ := st
   dsimp only at hA1 HWA
   have FT := hidden FT1.out
   have HA1 := hidden hA1
   obtain ⟨y11, _, _, _⟩ := arr_dnc hA1
   clear FT1
   cases hyd : y.down
   . rw [hyd] at y11
     have HW : Hid (writeA (x, ms) s zs = if (wr2 (y, ns) s zs).1.down = true then wr2 (y, ns) s zs else wr3 (wr2 (y, ns) s zs) s zs) := by unfold Hid; rw [HWA.out, if_neg (by simp [hyd])]; rfl
     clear hA1 HWA hyd
     obtain ⟨kM, kL, kn, ks, kq, kf⟩ := FT.out
     dsimp only at kM kL kn ks kq kf
     have HN : Hid (y.n = x.n /\ y.s = x.s /\ y.seq = x.seq /\ ns.length = ms.length) := ⟨kn, ks, kq, kL⟩
     have hn5y : ns.length <= 5 := by omega
     have H5a := hidden (MV.out.mine H5.out (fun hm => (HD5.out B hm).1 rfl) (fun b hb => (HD5.out b hb).2))
     obtain ⟨_, c6, _, _⟩ := arr_dnc HA1.out
     have zw := HA1.out.lt
     have zfm := HA1.out.ltm.1
     have FW := hidden (fit_wr2 (q := (y, ns)) kM kf s zs)
     have HKM : Hid (MsOk ns /\ y.fuse <= 1000) := ⟨kM, kf⟩
     clear kn ks kq kL kM kf
     go_wp2_with fail
     have hS : w1.drew.cell? ⟨B, 6, none⟩ = some (.int .i64 y.seq) := c6
     refine wp_region_held_drew (S := fun w' => w'.cell? ⟨B, 6, none⟩ = some (.int .i64 y.seq)) (by kernel_rfl) ?_ (fun hHeld => ?_)
     . exact hS
     refine held_t 0 hHeld ?_
     refine held_t 1 hHeld ?_
     refine held_t 2 hHeld ?_
     refine held_t 3 hHeld ?_
     refine held_t 4 hHeld ?_
     refine held_t 5 hHeld ?_
     refine held_t 7 hHeld ?_
     have bn := new_below w1 (.cells #[] 3)
     have zn : (w1.alloc (.cells #[] 3)).heap.size = w1.heap.size + 1 := by simp
     have hS2 : (w1.alloc (.cells #[] 3)).drew.cell? ⟨B, 6, none⟩ = some (.int .i64 y.seq) := (bn.cell (p := ⟨B, 6, none⟩) zw).trans c6
     have HGB : Hid ((w1.alloc (.cells #[] 3)).drew.heap[w1.heap.size]? = some (.cells #[] 3 (0, 0))) := Box.new w1 3 #[]
     have RD : Hid (tIntS.Rd (w1.alloc (.cells #[] 3)).drew [.slice ar zs.length cr] zs) := (H5a.out.rd.below bn).drew
     have BN := hidden bn
     clear bn
     refine held_one (i := 6) (by kernel_rfl) rfl (by kernel_rfl) (fun K hK => ?_)
     go_simp
     clear hHeld
     refine hK.out _ _ ?_ (fun hHeld => ?_)
     . exact hS2
     clear hK K
     refine held_one (i := 8) (by kernel_rfl) rfl (by kernel_rfl) (fun K hK => ?_)
     refine wp_of_if (G := True) (by kernel_rfl) (step_copy (ops := #[]) (by rfl) _ _ 30 (by rfl) i3 Tryz.underlying30 hi3 hx0 hx1 hx2 w1.heap.size (by rfl) HGB.out ar zs.length cr zs (by rfl) RD.out (by omega) ?_)
     intro ac cc wc fpx mx rx tx
     have tx' : Turned [w1.heap.size] (w1.alloc (.cells #[] 3)) wc := Turned.undrew tx
     have zd : (w1.alloc (.cells #[] 3)).drew.heap.size = (w1.alloc (.cells #[] 3)).heap.size := rfl
     have hbc : Below w1.heap.size w1 wc := BN.out.trans (tx'.below (N := w1.heap.size) (by omega) (by simp))
     have hS3 : wc.cell? ⟨B, 6, none⟩ = some (.int .i64 y.seq) := (hbc.cell (p := ⟨B, 6, none⟩) zw).trans c6
     have rx2 : ∀ b ∈ fpx, w1.heap.size <= b := fun b hb => by have := rx b hb; omega
     have AC := hidden (HA1.out.below hbc)
     have MVc := hidden (MV.out.below hbc)
     have MX := hidden mx
     have RX := hidden rx2
     clear mx rx tx tx' rx2 hbc zd BN HGB RD hS hS2 c6 hHeld
     refine hK.out _ _ ?_ (fun hHeld => ?_)
     . exact hS3
     clear hK K
     simp only [Act.put, List.setIfInBounds_toArray, List.set_cons_zero, List.set_cons_succ]
     refine held_t 9 hHeld ?_
     refine held_one (i := 10) (by kernel_rfl) rfl (by kernel_rfl) (fun K hK => ?_)
     go_simp
     refine (l7Rec_any _ B y ns ds fm1 fd AC.out HKM.out.2 HKM.out.1 y.seq s ac _ cc zs fpx MX.out (fun hm => by have := RX.out _ hm; omega) (fun b hb hm => by have h1 := RX.out b hb; have h2 := zfm b hm; omega) (by omega)).mono ?_
     rintro e w4 ⟨rfl, fm4, hA4, hMv4⟩
     have MV4 := hidden (MVc.out.trans hMv4)
     have HR2 : Hid (wr2 (y, ns) s zs = recS (y, ns) y.seq s zs) := rfl
     rw [← HR2.out] at hA4
     have hS4 : w4.cell? ⟨B, 6, none⟩ = some (.int .i64 y.seq) := by
      have h1 := (arr_dnc hA4).2.1
      rw [FW.out.2.2.2.2.1] at h1
      exact h1
     clear HR2 hMv4 MVc AC MX RX hS3 HA1 hHeld
     go_wp2_with fail
     refine hK.out _ _ ?_ (fun hHeld => ?_)
     . exact hS4
     clear hK K hS4
     refine wpAnyH_done (by kernel_rfl) ?_ _
     clear hHeld
     generalize wr2 (y, ns) s zs = st at hA4 FW HW
     obtain ⟨u, ps⟩ := st
     dsimp only at hA4 HW
     obtain ⟨uM, uL, un, us, uq, uf⟩ := FW.out
     dsimp only at uM uL un us uq uf
     obtain ⟨d11, d6, d7, fz⟩ := arr_dnc hA4
     cases hud : u.down
     . rw [hud] at d11
       have HW3 : Hid (writeA (x, ms) s zs = wr3 (u, ps) s zs) := by unfold Hid; rw [HW.out, if_neg (by simp [hud])]
       have HA5 := hidden (arr_seq7 hA4)
       have MV5 := hidden (MV4.out.trans (Moved.set (B := B) (j := 6) (fm := fm4) (w := w4) (.int .i64 (u.seq + 1))))
       have hwr : IntKind.i64.wrap (u.seq + 1) = u.seq + 1 := IntWalk.i64_in _ (by have h1 := HSQ.out; have h2 := HN.out; omega)
       have HU : Hid (u.n = x.n /\ u.s = x.s /\ ps.length = ms.length) := ⟨un.trans HN.out.1, us.trans HN.out.2.1, uL.trans HN.out.2.2.2⟩
       have H5b := hidden (MV5.out.mine H5.out (fun hm => (HD5.out B hm).1 rfl) (fun b hb => (HD5.out b hb).2))
       have hd5 : ∀ b ∈ fr, b ∉ fm4 := fun b hb hm => by
        rcases MV5.out.2 b hm with h1 | h1
        . exact (HD5.out b hb).2 h1
        . have := hl5 b hb; omega
       have HD9 := hidden hd5
       have HUF : Hid (u.fuse <= 1000 /\ MsOk ps) := ⟨uf, uM⟩
       have HRW : Hid (wr3 (u, ps) s zs = datasS ({u with seq := u.seq + 1}, ps) s (parN u.n u.s s) zs ps.length) := rfl
       clear hA4 hud HW uM uL un us uq uf MV4 FW hd5
       go_wp2_with fail
       clear d11 d6 d7 fz
       generalize w4.setCell ⟨B, 6, none⟩ (.int .i64 (u.seq + 1)) = w5 at HA5 MV5 H5b ⊢
       refine (l7Data_any w5 B {u with seq := u.seq + 1} ps ds fm4 fd HA5.out HUF.out.1 HUF.out.2 s ar _ cr zs fr H5b.out (fun hm => (HD5.out B hm).1 rfl) HD9.out (by dsimp only; rw [HU.out.1, HU.out.2.1]; exact HG.out) (by dsimp only; rw [HU.out.2.1]; exact HS.out) (by have h1 := HU.out; have h2 := HLN.out; dsimp only; omega) (by have h1 := HU.out; have h2 := HLN.out; dsimp only; omega)).mono ?_
       rintro e w7 ⟨rfl, fm7, hA7, hMv7⟩
       have MV7 := hidden (MV5.out.trans hMv7)
       have HW7 : Hid (writeA (x, ms) s zs = datasS ({u with seq := u.seq + 1}, ps) s (parN u.n u.s s) zs ps.length) := by unfold Hid; rw [HW3.out]; exact HRW.out
       clear hMv7 MV5 HRW HW3 HA5 H5b HD9
       dsimp only at hA7
       generalize datasS ({u with seq := u.seq + 1}, ps) s (parN u.n u.s s) zs ps.length = st at hA7 HW7
       obtain ⟨v, qs⟩ := st
       dsimp only at hA7
       obtain ⟨g11, _, _, _⟩ := arr_dnc hA7
       have HA7 := hidden hA7
       clear hA7
       cases hvd : v.down
       . rw [hvd] at g11
         have HF : Hid (Ending.returned (Value.int .i64 0) = .returned (.int .i64 (dnC (writeA (x, ms) s zs).1.down)) /\ ∃ fm', ArrAt w7 B (writeA (x, ms) s zs).1 (writeA (x, ms) s zs).2 ds fm' fd /\ Moved B fm w fm' w7) := by
          unfold Hid
          rw [HW7.out]
          exact ⟨by show _ = Ending.returned (.int .i64 (dnC v.down)); rw [hvd]; rfl, fm7, HA7.out, MV7.out⟩
         clear hvd
         go_wp2
         go_ret
         exact ret_fin HF.out
       . rw [hvd] at g11
         have HF : Hid (Ending.returned (Value.int .i64 6) = .returned (.int .i64 (dnC (writeA (x, ms) s zs).1.down)) /\ ∃ fm', ArrAt w7 B (writeA (x, ms) s zs).1 (writeA (x, ms) s zs).2 ds fm' fd /\ Moved B fm w fm' w7) := by
          unfold Hid
          rw [HW7.out]
          exact ⟨by show _ = Ending.returned (.int .i64 (dnC v.down)); rw [hvd]; rfl, fm7, HA7.out, MV7.out⟩
         clear hvd
         go_wp2
         go_ret
         exact ret_fin HF.out
     . rw [hud] at d11
       have HWu : Hid (writeA (x, ms) s zs = (u, ps)) := by unfold Hid; rw [HW.out, if_pos hud]
       have HF : Hid (Ending.returned (Value.int .i64 6) = .returned (.int .i64 (dnC (writeA (x, ms) s zs).1.down)) /\ ∃ fm', ArrAt w4 B (writeA (x, ms) s zs).1 (writeA (x, ms) s zs).2 ds fm' fd /\ Moved B fm w fm' w4) := by
        unfold Hid
        rw [HWu.out]
        exact ⟨by show _ = Ending.returned (.int .i64 (dnC u.down)); rw [hud]; rfl, fm4, hA4, MV4.out⟩
       clear hud hA4 HW
       go_wp2
       go_ret
       exact ret_fin HF.out
   . rw [hyd] at y11
     have HWu : Hid (writeA (x, ms) s zs = (y, ns)) := by unfold Hid; rw [HWA.out, if_pos hyd]
     have HF : Hid (Ending.returned (Value.int .i64 6) = .returned (.int .i64 (dnC (writeA (x, ms) s zs).1.down)) /\ ∃ fm', ArrAt w1 B (writeA (x, ms) s zs).1 (writeA (x, ms) s zs).2 ds fm' fd /\ Moved B fm w fm' w1) := by
      unfold Hid
      rw [HWu.out]
      exact ⟨by show _ = Ending.returned (.int .i64 (dnC y.down)); rw [hyd]; rfl, fm1, hA1, MV.out⟩
     clear hyd hA1 HWA
     go_wp2
     go_ret
     exact ret_fin HF.out
 . have HW1 : Hid (wr1 (x, ms) = (x, ms)) := by unfold Hid wr1; rw [if_neg (by dsimp only; omega)]
   rw [HW1.out] at FT1
   have e4 : decide (4 <= x.seq - x.tail) = false := by simpa using hfull
   have HW : Hid (writeA (x, ms) s zs = if (wr2 (x, ms) s zs).1.down = true then wr2 (x, ms) s zs else wr3 (wr2 (x, ms) s zs) s zs) := by unfold Hid writeA; rw [HW1.out, if_neg (by dsimp only; simp [HDN.out])]; rfl
   have FT := hidden FT1.out
   have MV := hidden MV0.out
   have HA1 := hidden HA0d.out
   have y11 : wd.cell? ⟨B, 11, none⟩ = some (.bool false) := by rw [← HDN.out]; exact k11d
   clear HW1 FT1 HC HCd MV0 HA0d k11 k6 k7 k11d
   obtain ⟨kM, kL, kn, ks, kq, kf⟩ := FT.out
   dsimp only at kM kL kn ks kq kf
   have HN : Hid (x.n = x.n /\ x.s = x.s /\ x.seq = x.seq /\ ms.length = ms.length) := ⟨kn, ks, kq, kL⟩
   have hn5y : ms.length <= 5 := by omega
   have H5a := hidden (MV.out.mine H5.out (fun hm => (HD5.out B hm).1 rfl) (fun b hb => (HD5.out b hb).2))
   obtain ⟨_, c6, _, _⟩ := arr_dnc HA1.out
   have zw := HA1.out.lt
   have zfm := HA1.out.ltm.1
   have FW := hidden (fit_wr2 (q := (x, ms)) kM kf s zs)
   have HKM : Hid (MsOk ms /\ x.fuse <= 1000) := ⟨kM, kf⟩
   clear kn ks kq kL kM kf
   go_wp2_with fail
   have hS : wd.drew.cell? ⟨B, 6, none⟩ = some (.int .i64 x.seq) := c6
   refine wp_region_held_drew (S := fun w' => w'.cell? ⟨B, 6, none⟩ = some (.int .i64 x.seq)) (by kernel_rfl) ?_ (fun hHeld => ?_)
   . exact hS
   refine held_t 0 hHeld ?_
   refine held_t 1 hHeld ?_
   refine held_t 2 hHeld ?_
   refine held_t 3 hHeld ?_
   refine held_t 4 hHeld ?_
   refine held_t 5 hHeld ?_
   refine held_t 7 hHeld ?_
   have bn := new_below wd (.cells #[] 3)
   have zn : (wd.alloc (.cells #[] 3)).heap.size = wd.heap.size + 1 := by simp
   have hS2 : (wd.alloc (.cells #[] 3)).drew.cell? ⟨B, 6, none⟩ = some (.int .i64 x.seq) := (bn.cell (p := ⟨B, 6, none⟩) zw).trans c6
   have HGB : Hid ((wd.alloc (.cells #[] 3)).drew.heap[wd.heap.size]? = some (.cells #[] 3 (0, 0))) := Box.new wd 3 #[]
   have RD : Hid (tIntS.Rd (wd.alloc (.cells #[] 3)).drew [.slice ar zs.length cr] zs) := (H5a.out.rd.below bn).drew
   have BN := hidden bn
   clear bn
   refine held_one (i := 6) (by kernel_rfl) rfl (by kernel_rfl) (fun K hK => ?_)
   go_simp
   clear hHeld
   refine hK.out _ _ ?_ (fun hHeld => ?_)
   . exact hS2
   clear hK K
   refine held_one (i := 8) (by kernel_rfl) rfl (by kernel_rfl) (fun K hK => ?_)
   refine wp_of_if (G := True) (by kernel_rfl) (step_copy (ops := #[]) (by rfl) _ _ 30 (by rfl) i3 Tryz.underlying30 hi3 hx0 hx1 hx2 wd.heap.size (by rfl) HGB.out ar zs.length cr zs (by rfl) RD.out (by omega) ?_)
   intro ac cc wc fpx mx rx tx
   have tx' : Turned [wd.heap.size] (wd.alloc (.cells #[] 3)) wc := Turned.undrew tx
   have zd : (wd.alloc (.cells #[] 3)).drew.heap.size = (wd.alloc (.cells #[] 3)).heap.size := rfl
   have hbc : Below wd.heap.size wd wc := BN.out.trans (tx'.below (N := wd.heap.size) (by omega) (by simp))
   have hS3 : wc.cell? ⟨B, 6, none⟩ = some (.int .i64 x.seq) := (hbc.cell (p := ⟨B, 6, none⟩) zw).trans c6
   have rx2 : ∀ b ∈ fpx, wd.heap.size <= b := fun b hb => by have := rx b hb; omega
   have AC := hidden (HA1.out.below hbc)
   have MVc := hidden (MV.out.below hbc)
   have MX := hidden mx
   have RX := hidden rx2
   clear mx rx tx tx' rx2 hbc zd BN HGB RD hS hS2 c6 hHeld
   refine hK.out _ _ ?_ (fun hHeld => ?_)
   . exact hS3
   clear hK K
   simp only [Act.put, List.setIfInBounds_toArray, List.set_cons_zero, List.set_cons_succ]
   refine held_t 9 hHeld ?_
   refine held_one (i := 10) (by kernel_rfl) rfl (by kernel_rfl) (fun K hK => ?_)
   go_simp
   refine (l7Rec_any _ B x ms ds fm fd AC.out HKM.out.2 HKM.out.1 x.seq s ac _ cc zs fpx MX.out (fun hm => by have := RX.out _ hm; omega) (fun b hb hm => by have h1 := RX.out b hb; have h2 := zfm b hm; omega) (by omega)).mono ?_
   rintro e w4 ⟨rfl, fm4, hA4, hMv4⟩
   have MV4 := hidden (MVc.out.trans hMv4)
   have HR2 : Hid (wr2 (x, ms) s zs = recS (x, ms) x.seq s zs) := rfl
   rw [← HR2.out] at hA4
   have hS4 : w4.cell? ⟨B, 6, none⟩ = some (.int .i64 x.seq) := by
    have h1 := (arr_dnc hA4).2.1
    rw [FW.out.2.2.2.2.1] at h1
    exact h1
   clear HR2 hMv4 MVc AC MX RX hS3 HA1 hHeld
   go_wp2_with fail
   refine hK.out _ _ ?_ (fun hHeld => ?_)
   . exact hS4
   clear hK K hS4
   refine wpAnyH_done (by kernel_rfl) ?_ _
   clear hHeld
   generalize wr2 (x, ms) s zs = st at hA4 FW HW
   obtain ⟨u, ps⟩ := st
   dsimp only at hA4 HW
   obtain ⟨uM, uL, un, us, uq, uf⟩ := FW.out
   dsimp only at uM uL un us uq uf
   obtain ⟨d11, d6, d7, fz⟩ := arr_dnc hA4
   cases hud : u.down
   . rw [hud] at d11
     have HW3 : Hid (writeA (x, ms) s zs = wr3 (u, ps) s zs) := by unfold Hid; rw [HW.out, if_neg (by simp [hud])]
     have HA5 := hidden (arr_seq7 hA4)
     have MV5 := hidden (MV4.out.trans (Moved.set (B := B) (j := 6) (fm := fm4) (w := w4) (.int .i64 (u.seq + 1))))
     have hwr : IntKind.i64.wrap (u.seq + 1) = u.seq + 1 := IntWalk.i64_in _ (by have h1 := HSQ.out; have h2 := HN.out; omega)
     have HU : Hid (u.n = x.n /\ u.s = x.s /\ ps.length = ms.length) := ⟨un, us, uL⟩
     have H5b := hidden (MV5.out.mine H5.out (fun hm => (HD5.out B hm).1 rfl) (fun b hb => (HD5.out b hb).2))
     have hd5 : ∀ b ∈ fr, b ∉ fm4 := fun b hb hm => by
      rcases MV5.out.2 b hm with h1 | h1
      . exact (HD5.out b hb).2 h1
      . have := hl5 b hb; omega
     have HD9 := hidden hd5
     have HUF : Hid (u.fuse <= 1000 /\ MsOk ps) := ⟨uf, uM⟩
     have HRW : Hid (wr3 (u, ps) s zs = datasS ({u with seq := u.seq + 1}, ps) s (parN u.n u.s s) zs ps.length) := rfl
     clear hA4 hud HW uM uL un us uq uf MV4 FW hd5
     go_wp2_with fail
     clear d11 d6 d7 fz
     generalize w4.setCell ⟨B, 6, none⟩ (.int .i64 (u.seq + 1)) = w5 at HA5 MV5 H5b ⊢
     refine (l7Data_any w5 B {u with seq := u.seq + 1} ps ds fm4 fd HA5.out HUF.out.1 HUF.out.2 s ar _ cr zs fr H5b.out (fun hm => (HD5.out B hm).1 rfl) HD9.out (by dsimp only; rw [HU.out.1, HU.out.2.1]; exact HG.out) (by dsimp only; rw [HU.out.2.1]; exact HS.out) (by have h1 := HU.out; have h2 := HLN.out; dsimp only; omega) (by have h1 := HU.out; have h2 := HLN.out; dsimp only; omega)).mono ?_
     rintro e w7 ⟨rfl, fm7, hA7, hMv7⟩
     have MV7 := hidden (MV5.out.trans hMv7)
     have HW7 : Hid (writeA (x, ms) s zs = datasS ({u with seq := u.seq + 1}, ps) s (parN u.n u.s s) zs ps.length) := by unfold Hid; rw [HW3.out]; exact HRW.out
     clear hMv7 MV5 HRW HW3 HA5 H5b HD9
     dsimp only at hA7
     generalize datasS ({u with seq := u.seq + 1}, ps) s (parN u.n u.s s) zs ps.length = st at hA7 HW7
     obtain ⟨v, qs⟩ := st
     dsimp only at hA7
     obtain ⟨g11, _, _, _⟩ := arr_dnc hA7
     have HA7 := hidden hA7
     clear hA7
     cases hvd : v.down
     . rw [hvd] at g11
       have HF : Hid (Ending.returned (Value.int .i64 0) = .returned (.int .i64 (dnC (writeA (x, ms) s zs).1.down)) /\ ∃ fm', ArrAt w7 B (writeA (x, ms) s zs).1 (writeA (x, ms) s zs).2 ds fm' fd /\ Moved B fm w fm' w7) := by
        unfold Hid
        rw [HW7.out]
        exact ⟨by show _ = Ending.returned (.int .i64 (dnC v.down)); rw [hvd]; rfl, fm7, HA7.out, MV7.out⟩
       clear hvd
       go_wp2
       go_ret
       exact ret_fin HF.out
     . rw [hvd] at g11
       have HF : Hid (Ending.returned (Value.int .i64 6) = .returned (.int .i64 (dnC (writeA (x, ms) s zs).1.down)) /\ ∃ fm', ArrAt w7 B (writeA (x, ms) s zs).1 (writeA (x, ms) s zs).2 ds fm' fd /\ Moved B fm w fm' w7) := by
        unfold Hid
        rw [HW7.out]
        exact ⟨by show _ = Ending.returned (.int .i64 (dnC v.down)); rw [hvd]; rfl, fm7, HA7.out, MV7.out⟩
       clear hvd
       go_wp2
       go_ret
       exact ret_fin HF.out
   . rw [hud] at d11
     have HWu : Hid (writeA (x, ms) s zs = (u, ps)) := by unfold Hid; rw [HW.out, if_pos hud]
     have HF : Hid (Ending.returned (Value.int .i64 6) = .returned (.int .i64 (dnC (writeA (x, ms) s zs).1.down)) /\ ∃ fm', ArrAt w4 B (writeA (x, ms) s zs).1 (writeA (x, ms) s zs).2 ds fm' fd /\ Moved B fm w fm' w4) := by
      unfold Hid
      rw [HWu.out]
      exact ⟨by show _ = Ending.returned (.int .i64 (dnC u.down)); rw [hud]; rfl, fm4, hA4, MV4.out⟩
     clear hud hA4 HW
     go_wp2
     go_ret
     exact ret_fin HF.out

theorem l7Code_any (w : World) (E F G : TypeId) (x : ArrN) (am ad : Option Addr) (nm cm nd cd : Nat) (ms : List MemD) (ds : List (Int × List Int)) (h0 : (tMemS E F).Rd w [.slice am nm cm] ms) (h1 : (tWrS G).Rd w [.slice ad nd cd] ds) (hw : wtArr ms ds <= 2097152) (s : Int) (ar : Option Addr) (cr : Nat) (zs : List Int) (h5 : tIntS.Rd w [.slice ar zs.length cr] zs) (hz5 : zs.length <= 2097152) :
 Calls Tryz.prog 57 #[.agg #[.int .i64 x.id, .int .i64 x.n, .int .i64 x.s, .slice am nm cm, .int .i64 x.lost, .int .i64 x.built, .int .i64 x.seq, .int .i64 x.tail, .int .i64 x.gen, .slice ad nd cd, .int .i64 x.fuse, .bool x.down, .bool x.broken], .int .i64 s, .slice ar zs.length cr] w fun e w' => e = .returned (.int .i64 (codeN x ms ds s zs)) /\ Below w.heap.size w w' := by
 have hA := new_below w (.cells #[.int .i64 x.id, .int .i64 x.n, .int .i64 x.s, .slice am nm cm, .int .i64 x.lost, .int .i64 x.built, .int .i64 x.seq, .int .i64 x.tail, .int .i64 x.gen, .slice ad nd cd, .int .i64 x.fuse, .bool x.down, .bool x.broken] 29)
 have X0 := Box.new w 29 #[.int .i64 x.id, .int .i64 x.n, .int .i64 x.s, .slice am nm cm, .int .i64 x.lost, .int .i64 x.built, .int .i64 x.seq, .int .i64 x.tail, .int .i64 x.gen, .slice ad nd cd, .int .i64 x.fuse, .bool x.down, .bool x.broken]
 have zX := X0.lt
 have r0 := h0.below hA
 have r1 := h1.below hA
 have r5 := h5.below hA
 obtain ⟨k0, k1, k2, k3, k4, k5, k6, k7, k8, k9, k10, k11, k12⟩ := X0.cells13
 go_enter Tryz.func57, Tryz.ntmps57
 go_wp2_with fail
 generalize w.alloc (.cells #[.int .i64 x.id, .int .i64 x.n, .int .i64 x.s, .slice am nm cm, .int .i64 x.lost, .int .i64 x.built, .int .i64 x.seq, .int .i64 x.tail, .int .i64 x.gen, .slice ad nd cd, .int .i64 x.fuse, .bool x.down, .bool x.broken] 29) = W at hA X0 zX r0 r1 r5 k0 k1 k2 k3 k4 k5 k6 k7 k8 k9 k10 k11 k12 ⊢
 refine (specArrOk_any _ E F G x _ _ _ _ _ _ ms ds r0 r1 hw).mono ?_
 rintro e w1 ⟨rfl, b1⟩
 have X1 := X0.below b1 zX
 have p5 := r5.below b1
 have B1 := Below.andThen hA b1
 clear k0 k1 k2 k3 k4 k5 k6 k7 k8 k9 k10 k11 k12 X0 r0 r1 r5 b1 hA zX
 obtain ⟨k0, k1, k2, k3, k4, k5, k6, k7, k8, k9, k10, k11, k12⟩ := X1.cells13
 cases ha : arrB x ms ds
 . have HV : Hid (codeN x ms ds s zs = 1) := by unfold Hid codeN; rw [ha, Bool.false_and, if_pos rfl]
   clear ha
   have HB := hidden B1
   clear B1
   go_wp2
   go_ret
   exact ⟨ret_int HV.out.symm, HB.out⟩
 . have hln := arr_len ha
   have hrg : x.seq <= 60000 /\ 1 <= x.s /\ x.s <= 8 /\ geoB x.n x.s = true := by
    unfold arrB seqB6 at ha
    simp only [Bool.and_eq_true, inB_iff, decide_eq_true_eq] at ha
    obtain ⟨hgeo, _, _, _, _, htl, hsq2, hst, _⟩ := ha
    have := geoB_iff.1 hgeo
    exact ⟨hsq2.2, this.2.2.1, this.2.2.2, hgeo⟩
   obtain ⟨hn3, hn5, hnl⟩ := hln
   clear hnl
   obtain ⟨hq6, hs1, hs8, hgeo⟩ := hrg
   have wn : IntKind.i64.wrap (x.n - 1) = x.n - 1 := IntWalk.i64_in _ (by omega)
   have ws : IntKind.i64.wrap (x.s - 1) = x.s - 1 := IntWalk.i64_in _ (by omega)
   by_cases hzl : (zs.length : Int) = x.n - 1
   . have hne : ((zs.length : Int) != x.n - 1) = false := by simp [hzl]
     have HZL := hidden hzl
     have h12 : zs.length <= 12 := by omega
     have hsec : secB zs = allW zs := by unfold secB; rw [decide_eq_true h12, Bool.true_and]
     have HSEC := hidden hsec
     clear hzl hsec h12
     have X2 := X1
     have q5 := p5
     have B2 := B1
     clear X1 p5 B1
     go_wp2_with fail
     refine (l1Words_any _ _ _ _ zs rfl (ints_rd q5).1 hz5).mono ?_
     rintro e w3 ⟨rfl, hw3⟩
     subst hw3
     have X3 := X2
     have B3 := B2
     clear k0 k1 k2 k3 k4 k5 k6 k7 k8 k9 k10 k11 k12 X2 q5 B2
     obtain ⟨k0, k1, k2, k3, k4, k5, k6, k7, k8, k9, k10, k11, k12⟩ := X3.cells13
     cases haw : allW zs
     . have HV : Hid (codeN x ms ds s zs = 1) := by unfold Hid codeN; rw [ha, haw, Bool.and_false, Bool.and_false, if_pos rfl]
       clear haw ha
       have HB := hidden B3
       clear B3
       go_wp2
       go_ret
       exact ⟨ret_int HV.out.symm, HB.out⟩
     . have HU : Hid (codeN x ms ds s zs = if x.down = true then 6 else if inB s 0 (x.s - 1) = false then 2 else if x.broken = true then 5 else if x.seq = 60000 ∨ 59990 <= x.gen then 7 else 0) := by unfold Hid codeN; rw [ha, haw, decide_eq_true HZL.out, if_neg (by simp)]
       clear haw ha
       cases hdn : x.down
       . rw [hdn] at k11
         have HU2 : Hid (codeN x ms ds s zs = if inB s 0 (x.s - 1) = false then 2 else if x.broken = true then 5 else if x.seq = 60000 ∨ 59990 <= x.gen then 7 else 0) := by unfold Hid; rw [HU.out, hdn, if_neg (by simp)]
         clear hdn HU
         go_wp2_with fail
         refine (l1In_any s 0 (x.s - 1) _).mono ?_
         rintro e w4 ⟨rfl, hw4⟩
         subst hw4
         have X4 := X3
         have B4 := B3
         clear X3 B3
         cases hin : inB s 0 (x.s - 1)
         . have HV : Hid (codeN x ms ds s zs = 2) := by unfold Hid; rw [HU2.out, hin, if_pos rfl]
           clear hin
           have HB := hidden B4
           clear B4
           go_wp2
           go_ret
           exact ⟨ret_int HV.out.symm, HB.out⟩
         . have HU3 : Hid (codeN x ms ds s zs = if x.broken = true then 5 else if x.seq = 60000 ∨ 59990 <= x.gen then 7 else 0) := by unfold Hid; rw [HU2.out, hin, if_neg (by simp)]
           clear hin HU2
           cases hbr : x.broken
           . rw [hbr] at k12
             have HU4 : Hid (codeN x ms ds s zs = if x.seq = 60000 ∨ 59990 <= x.gen then 7 else 0) := by unfold Hid; rw [HU3.out, hbr, if_neg (by simp)]
             clear hbr HU3
             by_cases hq : x.seq = 60000
             . have HV : Hid (codeN x ms ds s zs = 7) := by unfold Hid; rw [HU4.out, if_pos (.inl hq)]
               have e1 : (x.seq == 60000) = true := by simpa using hq
               have e2 : decide (60000 <= x.seq) = true := by simp; omega
               have e3 : 60000 <= x.seq := by omega
               clear hq
               have HB := hidden B4
               clear B4
               go_wp2
               go_ret
               exact ⟨ret_int HV.out.symm, HB.out⟩
             . have e1 : (x.seq == 60000) = false := by simpa using hq
               have e2 : ¬ 60000 <= x.seq := by omega
               have e3 : decide (60000 <= x.seq) = false := by simp; omega
               by_cases hgn : 59990 <= x.gen
               . have HV : Hid (codeN x ms ds s zs = 7) := by unfold Hid; rw [HU4.out, if_pos (.inr hgn)]
                 clear hq
                 have HB := hidden B4
                 clear B4
                 go_wp2
                 go_ret
                 exact ⟨ret_int HV.out.symm, HB.out⟩
               . have HV : Hid (codeN x ms ds s zs = 0) := by unfold Hid; rw [HU4.out, if_neg (fun h => h.elim hq hgn)]
                 clear hq
                 have HB := hidden B4
                 clear B4
                 go_wp2
                 go_ret
                 exact ⟨ret_int HV.out.symm, HB.out⟩
           . rw [hbr] at k12
             have HV : Hid (codeN x ms ds s zs = 5) := by unfold Hid; rw [HU3.out, hbr, if_pos rfl]
             clear hbr
             have HB := hidden B4
             clear B4
             go_wp2
             go_ret
             exact ⟨ret_int HV.out.symm, HB.out⟩
       . rw [hdn] at k11
         have HV : Hid (codeN x ms ds s zs = 6) := by unfold Hid; rw [HU.out, hdn, if_pos rfl]
         clear hdn
         have HB := hidden B3
         clear B3
         go_wp2
         go_ret
         exact ⟨ret_int HV.out.symm, HB.out⟩
   . have hne : ((zs.length : Int) != x.n - 1) = true := by simpa using hzl
     have HV : Hid (codeN x ms ds s zs = 1) := by unfold Hid codeN; rw [ha, decide_eq_false hzl, Bool.false_and, Bool.and_false, if_pos rfl]
     clear hzl
     have X2 := X1
     have q5 := p5
     have B2 := B1
     clear X1 p5 B1
     clear ha
     have HB := hidden B2
     clear B2
     go_wp2
     go_ret
     exact ⟨ret_int HV.out.symm, HB.out⟩

def Elems (t : Ty) (w : World) (vs : List Value) (ys : List t.D) (fs : List (List Nat)) : Prop :=
 vs.length = ys.length * t.n /\ fs.length = ys.length /\ fs.flatten.Nodup /\ ∀ i y, ys[i]? = some y -> ∃ f, fs[i]? = some f /\ t.ow w ((vs.drop (i * t.n)).take t.n) y f
theorem Elems.lt {t : Ty} {w : World} {vs : List Value} {ys : List t.D} {fs : List (List Nat)} (h : Elems t w vs ys fs) : ∀ c ∈ fs.flatten, c < w.heap.size := by
 intro c hc
 obtain ⟨_, h7, _, h8⟩ := h
 obtain ⟨f', hf', hcf⟩ := List.mem_flatten.1 hc
 obtain ⟨i, hi⟩ := List.mem_iff_getElem?.1 hf'
 have hil : i < ys.length := by rw [← h7]; exact (List.getElem?_eq_some_iff.1 hi).1
 obtain ⟨f2, hf2, ho2⟩ := h8 i _ (List.getElem?_eq_getElem hil)
 rw [hi] at hf2
 simp at hf2
 subst hf2
 exact t.rdLt (t.owRd ho2) c hcf

theorem row_cellsN {t : Ty} {E : TypeId} {w : World} {lo b cap : Nat} {d : List t.D} {fp : List Nat} (h : (rowTy t E).Mine w [.slice (some ⟨b, 0, none⟩) d.length cap] d fp) (hlo : ∀ b ∈ fp, lo <= b) :
 ∃ xs, w.ownsRow lo E t.n (.slice (some ⟨b, 0, none⟩) d.length cap) d.length xs /\ ∀ w' v' vs ys fs, Elems t w vs ys fs -> (∀ b ∈ fp, b ∉ fs.flatten) -> w'.ownsRow lo E t.n v' (d.length + ys.length) (xs ++ vs) -> w.grownBy w' (some b) -> (v'.ownBlock = some b ∨ v'.ownBlock = some w.heap.size) ->
  ∃ fp', (rowTy t E).Mine w' [v'] (d ++ ys) fp' /\ (∀ c ∈ fp', c ∈ fp ∨ c ∈ fs.flatten ∨ (c = w.heap.size /\ c < w'.heap.size)) /\ Turned fp w w' := by
 obtain ⟨h, hn⟩ := h
 rcases h with ⟨h1, _⟩ | ⟨b', cap', cur, fps, h1, h2, h3, h4, h5, rfl, h7, h8⟩
 . simp at h1
 . simp only [List.cons.injEq, Value.slice.injEq, Option.some.injEq, Addr.mk.injEq, and_true] at h1
   obtain ⟨rfl, _, rfl⟩ := h1
   have hle : d.length * t.n <= cap * t.n := Nat.mul_le_mul_right _ h2
   have hxl : (cur.toList.take (d.length * t.n)).length = d.length * t.n := by
    have hcl : cur.toList.length = cap * t.n := by rw [Array.length_toList]; exact h5
    rw [List.length_take, hcl]
    omega
   refine ⟨cur.toList.take (d.length * t.n), ⟨hxl, .inr ⟨b, cap, cur, rfl, hlo b List.mem_cons_self, h4, h2, h3, h5, rfl⟩⟩, fun w' v' vs ys fs hx hdis ho hg hat => ?_⟩
   have hel := hx.lt
   obtain ⟨e1, e2, e3, e4⟩ := hx
   rw [List.nodup_cons] at hn
   obtain ⟨hbf, hnf⟩ := hn
   have hfplt : ∀ c ∈ fps.flatten, c < w.heap.size := by
    intro c hc
    obtain ⟨f', hf', hcf⟩ := List.mem_flatten.1 hc
    obtain ⟨i, hi⟩ := List.mem_iff_getElem?.1 hf'
    have hil : i < d.length := by rw [← h7]; exact (List.getElem?_eq_some_iff.1 hi).1
    obtain ⟨f2, hf2, ho2⟩ := h8 i _ (List.getElem?_eq_getElem hil)
    rw [hi] at hf2
    simp at hf2
    subst hf2
    exact t.rdLt (t.owRd ho2) c hcf
   have hbx : b ∉ fs.flatten := hdis b List.mem_cons_self
   have hkeep : ∀ c, c < w.heap.size -> c ≠ b -> w'.heap[c]? = w.heap[c]? := fun c hc hne => hg.block c hc (by simpa using hne)
   rcases ho.2 with ⟨hv0, h0⟩ | ⟨g, cap', cur', hv', hb, hg', hnc, hcm, hcs, htake⟩
   . have hd0 : d = [] := List.eq_nil_of_length_eq_zero (by omega)
     have hy0 : ys = [] := List.eq_nil_of_length_eq_zero (by omega)
     subst hd0 hy0 hv0
     exact ⟨[], ⟨.inl ⟨rfl, rfl, rfl⟩, List.nodup_nil⟩, by simp, hg.os, hg.tape, hg.output, hg.size, fun k hk hf => hkeep k hk (fun e => hf (by rw [e]; exact List.mem_cons_self))⟩
   . have hgs : g = b ∨ g = w.heap.size := by
      rw [hv'] at hat
      simpa [Value.ownBlock] using hat
     have hgl : g < w'.heap.size := (Array.getElem?_eq_some_iff.1 hg').1
     subst hv'
     have hfl : (fps ++ fs).flatten = fps.flatten ++ fs.flatten := by simp
     have hcell : ∀ k, k < d.length * t.n + ys.length * t.n -> cur'.toList[k]? = (cur.toList.take (d.length * t.n) ++ vs)[k]? := fun k hk => by
      have := congrArg (fun l => l[k]?) htake
      simp only [List.getElem?_take] at this
      rw [if_pos (by rw [Nat.add_mul]; omega)] at this
      exact this
     have hseg : ∀ i, i < d.length -> (cur'.toList.drop (i * t.n)).take t.n = (cur.toList.drop (i * t.n)).take t.n := by
      intro i hi
      have hmul : (i + 1) * t.n <= d.length * t.n := Nat.mul_le_mul_right _ hi
      rw [Nat.add_mul, Nat.one_mul] at hmul
      apply List.ext_getElem?
      intro k
      rw [List.getElem?_take, List.getElem?_take]
      by_cases hk : k < t.n
      . rw [if_pos hk, if_pos hk, List.getElem?_drop, List.getElem?_drop, hcell _ (by omega), List.getElem?_append_left (by rw [hxl]; omega), List.getElem?_take, if_pos (by omega)]
      . rw [if_neg hk, if_neg hk]
     have hnew : ∀ i, i < ys.length -> (cur'.toList.drop ((d.length + i) * t.n)).take t.n = (vs.drop (i * t.n)).take t.n := by
      intro i hi
      have hmul : (i + 1) * t.n <= ys.length * t.n := Nat.mul_le_mul_right _ hi
      rw [Nat.add_mul, Nat.one_mul] at hmul
      apply List.ext_getElem?
      intro k
      rw [List.getElem?_take, List.getElem?_take]
      by_cases hk : k < t.n
      . rw [if_pos hk, if_pos hk, List.getElem?_drop, List.getElem?_drop, Nat.add_mul, hcell _ (by omega), List.getElem?_append_right (by rw [hxl]; omega), hxl]
        congr 1
        omega
      . rw [if_neg hk, if_neg hk]
     refine ⟨g :: (fps ++ fs).flatten, ⟨.inr ⟨g, cap', cur', fps ++ fs, by simp, by simpa using hnc, hcm, hg', hcs, rfl, by simp [h7, e2], fun i y hy => ?_⟩, ?_⟩, ?_, hg.os, hg.tape, hg.output, hg.size, fun k hk hf => hkeep k hk (fun e => hf (by rw [e]; exact List.mem_cons_self))⟩
     . by_cases hi : i < d.length
       . rw [List.getElem?_append_left hi] at hy
         obtain ⟨f2, hf2, ho2⟩ := h8 i y hy
         refine ⟨f2, by rw [List.getElem?_append_left (by omega)]; exact hf2, ?_⟩
         rw [hseg i hi]
         refine t.owKept ho2 (fun c hc => hkeep c (t.rdLt (t.owRd ho2) c hc) (fun e => hbf ?_)) hg.size
         rw [← e]
         exact List.mem_flatten.2 ⟨f2, List.mem_of_getElem? hf2, hc⟩
       . rw [List.getElem?_append_right (by omega)] at hy
         have hil := (List.getElem?_eq_some_iff.1 hy).1
         obtain ⟨f2, hf2, ho2⟩ := e4 (i - d.length) y hy
         refine ⟨f2, by rw [List.getElem?_append_right (by omega), h7]; exact hf2, ?_⟩
         have := hnew (i - d.length) hil
         rw [show d.length + (i - d.length) = i by omega] at this
         rw [this]
         refine t.owKept ho2 (fun c hc => ?_) hg.size
         have hcm' : c ∈ fs.flatten := List.mem_flatten.2 ⟨f2, List.mem_of_getElem? hf2, hc⟩
         exact hkeep c (hel c hcm') (fun e => hbx (e ▸ hcm'))
     . rw [hfl, List.nodup_cons]
       refine ⟨fun hm => ?_, ?_⟩
       . rcases List.mem_append.1 hm with hm | hm
         . rcases hgs with rfl | rfl
           . exact hbf hm
           . have := hfplt _ hm
             omega
         . rcases hgs with rfl | rfl
           . exact hbx hm
           . have := hel _ hm
             omega
       . rw [List.nodup_append]
         exact ⟨hnf, e3, fun a ha c hc e => hdis a (List.mem_cons_of_mem _ ha) (e ▸ hc)⟩
     . intro c hc
       rw [hfl] at hc
       rcases List.mem_cons.1 hc with rfl | hc
       . rcases hgs with rfl | hgs
         . exact .inl List.mem_cons_self
         . exact .inr (.inr ⟨hgs, hgl⟩)
       . rcases List.mem_append.1 hc with hc | hc
         . exact .inl (List.mem_cons_of_mem _ hc)
         . exact .inr (.inl hc)

theorem step_appN {P : Program} {w : World} {ops : Array Oper} {o : Oper} {a : Act} {K : Act -> World -> Prop} {Q : Exit -> Act -> World -> Prop} {G : Prop} (t : Ty) (hgd : o.guard = none) (s x : Operand) (T : TypeId)
 (ho : o.op = .call { callee := .builtin .append, args := #[s, x], argTypes := #[T, T] })
 (E : TypeId) (i : TypeInfo) (z : Value) (bytes : Nat) (ht : P.underlying T = some (.slice E)) (hi : P.info? E = some i) (hz : i.zero = some z)
 (hsize : i.size = t.n) (hby : i.bytes = bytes) (hzs : z.cells.size = t.n) (hsz : 0 < t.n)
 (b cap : Nat) (d : List t.D) (fp : List Nat) (hs : a.eval s = .slice (some ⟨b, 0, none⟩) d.length cap) (hown : (rowTy t E).Mine w [.slice (some ⟨b, 0, none⟩) d.length cap] d fp)
 (ad : Addr) (c : Nat) (vs : List Value) (ys : List t.D) (fs : List (List Nat)) (hx : a.eval x = .slice (some ad) ys.length c) (hy : Elems t w vs ys fs) (hdis : ∀ b ∈ fp, b ∉ fs.flatten) (hr : ∀ j u, vs[j]? = some u -> w.cell? (ad.add j) = some u) (h1 : ∀ u ∈ vs, u.oneCell' = true)
 (h63 : d.length + ys.length <= maxLen) (hbytes : (d.length + ys.length) * bytes <= 140737488355328)
 (h : ∀ g cap' w' fp', (rowTy t E).Mine w' [.slice (some ⟨g, 0, none⟩) (d.length + ys.length) cap'] (d ++ ys) fp' -> (∀ b ∈ fp', b ∈ fp ∨ b ∈ fs.flatten ∨ (b = w.heap.size /\ b < w'.heap.size)) -> Turned fp w w' -> K (a.put o.dst (.slice (some ⟨g, 0, none⟩) (d.length + ys.length) cap')) w') :
 if Region.wanted o (yielded ops a.tmps) = true then Oper.wp P o a w K Q else G := by
 obtain ⟨xs, hrow, hback⟩ := row_cellsN (lo := 0) hown (fun _ _ => Nat.zero_le _)
 have hw : Region.wanted o (yielded ops a.tmps) = true := by simp [Region.wanted, hgd]
 rw [if_pos hw]
 obtain ⟨v', w', hr, k1, k2, k3, k4⟩ := run_append_own_at (P := P) w 0 T o.type E i z t.n bytes ht hi hz hsize hby hzs hsz _ d.length xs hrow ad ys.length c vs hy.1 hr h1 h63 hbytes (Nat.zero_le _)
 obtain ⟨fp', m1, m2, m3⟩ := hback w' v' vs ys fs hy hdis k1 k2 k4
 rcases k1.2 with ⟨hv0, _⟩ | ⟨g, cap', _, hv', _⟩
 . simp at k3
   exact absurd hv0 k3
 . subst hv'
   unfold Oper.wp execOp
   simp only [ho, resolve, invoke, builtin, Sem.run_bind, Sem.run_pure, Result.andThen_ok, List.map_toArray, List.map_cons, List.map_nil, hs, hx, hr]
   exact h g cap' w' fp' m1 m2 m3

theorem runs_sub {l m : List (List Nat)} (h : l.Sublist m) : l.flatten.Sublist m.flatten := by
 induction h with
 | slnil => exact .slnil
 | cons a _ ih => rw [List.flatten_cons]; exact ih.trans (List.sublist_append_right _ _)
 | cons_cons a _ ih => rw [List.flatten_cons, List.flatten_cons]; exact (List.Sublist.refl a).append ih
theorem runs_apart {l : List (List Nat)} {k : Nat} (h : l.flatten.Nodup) : ∀ b ∈ (l.take k).flatten, b ∉ (l.drop (k + 1)).flatten := by
 intro b hb hc
 have h1 : (l.take k ++ l.drop k).flatten.Nodup := by rw [List.take_append_drop]; exact h
 rw [List.flatten_append, List.nodup_append] at h1
 refine h1.2.2 b hb b ?_ rfl
 have : (l.drop (k + 1)).Sublist (l.drop k) := by rw [← List.drop_drop]; exact List.drop_sublist _ _
 exact (runs_sub this).subset hc

theorem row_seg {t : Ty} {E : TypeId} {w : World} {b cap : Nat} {d : List t.D} {fp : List Nat} (h : (rowTy t E).Mine w [.slice (some ⟨b, 0, none⟩) d.length cap] d fp) :
 ∃ (cs : List Value) (fps : List (List Nat)), fps.length = d.length /\ fp = b :: fps.flatten /\ cs.length = d.length * t.n /\ (∀ j u, cs[j]? = some u -> w.cell? ⟨b, j, none⟩ = some u) /\
  (∀ i y, d[i]? = some y -> ∃ f, fps[i]? = some f /\ t.ow w ((cs.drop (i * t.n)).take t.n) y f) /\ ∀ lo m, lo + m <= d.length -> Elems t w ((cs.drop (lo * t.n)).take (m * t.n)) ((d.drop lo).take m) ((fps.drop lo).take m) := by
 obtain ⟨h, hn⟩ := h
 rcases h with ⟨h1, _⟩ | ⟨b', cap', cur, fps, h1, h2, h3, h4, h5, rfl, h7, h8⟩
 . simp at h1
 . simp only [List.cons.injEq, Value.slice.injEq, Option.some.injEq, Addr.mk.injEq, and_true] at h1
   obtain ⟨rfl, _, rfl⟩ := h1
   rw [List.nodup_cons] at hn
   have hle : d.length * t.n <= cap * t.n := Nat.mul_le_mul_right _ h2
   have hcl : cur.toList.length = cap * t.n := by rw [Array.length_toList]; exact h5
   have hxl : (cur.toList.take (d.length * t.n)).length = d.length * t.n := by
    rw [List.length_take, hcl]
    omega
   have hel : ∀ i y, d[i]? = some y -> ∃ f, fps[i]? = some f /\ t.ow w (((cur.toList.take (d.length * t.n)).drop (i * t.n)).take t.n) y f := by
    intro i y hy
    obtain ⟨f, hf, ho⟩ := h8 i y hy
    have hi := (List.getElem?_eq_some_iff.1 hy).1
    have hmul : (i + 1) * t.n <= d.length * t.n := Nat.mul_le_mul_right _ hi
    rw [Nat.add_mul, Nat.one_mul] at hmul
    refine ⟨f, hf, ?_⟩
    rw [List.drop_take, List.take_take, Nat.min_eq_left (by omega)]
    exact ho
   refine ⟨cur.toList.take (d.length * t.n), fps, h7, rfl, hxl, fun j u hu => ?_, hel, fun lo m hlm => ⟨?_, ?_, ?_, fun i y hy => ?_⟩⟩
   . rw [List.getElem?_take] at hu
     split at hu
     . rw [cell_of_row w b _ cur E (0, 0) h4]
       simpa using hu
     . simp at hu
   . have hmul : (lo + m) * t.n <= d.length * t.n := Nat.mul_le_mul_right _ hlm
     rw [Nat.add_mul] at hmul
     rw [List.length_take, List.length_drop, hxl, List.length_take, List.length_drop, Nat.min_eq_left (show m <= d.length - lo by omega)]
     omega
   . simp only [List.length_take, List.length_drop, h7]
   . refine hn.2.sublist ?_
     exact runs_sub ((List.take_sublist _ _).trans (List.drop_sublist _ _))
   . rw [List.getElem?_take] at hy
     split at hy
     case isTrue him =>
      rw [List.getElem?_drop] at hy
      obtain ⟨f, hf, ho⟩ := hel (lo + i) y hy
      have hmul : (i + 1) * t.n <= m * t.n := Nat.mul_le_mul_right _ him
      rw [Nat.add_mul, Nat.one_mul] at hmul
      refine ⟨f, by rw [List.getElem?_take, if_pos him, List.getElem?_drop]; exact hf, ?_⟩
      rw [List.drop_take, List.take_take, Nat.min_eq_left (by omega), List.drop_drop, ← Nat.add_mul]
      exact ho
     case isFalse => simp at hy

end Go.Proofs.YtianjijbmiebgaaGreat
