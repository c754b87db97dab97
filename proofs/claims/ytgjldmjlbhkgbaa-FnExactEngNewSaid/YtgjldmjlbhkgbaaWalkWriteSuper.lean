/-
  Both WriteSuper (the program's and the specification's) answer as the definitions here say. Condition: the disk weighs at most 2097152.
-/
import Derived.Test.YtgjldmjlbhkgbaaSupPlace
import Derived.Test.YtgjldmjlbhkgbaaWalkWriteSpec
import Derived.Test.YtgjldmjlbhkgbaaWalkCopySpec
namespace Go.Proofs.Ytgjldmjlbhkgbaa
open Go.RowKit

/-- What waits, and what is bad, behind a Super that is written. -/
def wsCS (ss : List (List Int)) (cs : List (Int × List Int)) (f : Bool) (bs : List Int) (x : Sup) : List (Int × List Int) := if supB x = true then wrCS ss cs f bs (x.gen % 2) (putD x) else cs
def wsBS (ss : List (List Int)) (cs : List (Int × List Int)) (f : Bool) (bs : List Int) (x : Sup) : List Int := if supB x = true then wrBS ss cs f bs (x.gen % 2) (putD x) else bs
/-- A block's first four cells set. -/
def set4 (w : World) (B : Nat) (v0 v1 v2 v3 : Value) : World := (((w.setCell ⟨B, 0, none⟩ v0).setCell ⟨B, 1, none⟩ v1).setCell ⟨B, 2, none⟩ v2).setCell ⟨B, 3, none⟩ v3
theorem set4_but (w : World) (B : Nat) (v0 v1 v2 v3 : Value) : But B (B + 1) w (set4 w B v0 v1 v2 v3) := by
  unfold set4
  exact (((But.setCell (by omega) (by omega) _).trans (But.setCell (by omega) (by omega) _)).trans (But.setCell (by omega) (by omega) _)).trans (But.setCell (by omega) (by omega) _)
theorem set4_box {w : World} {B : Nat} {T : TypeId} {x0 x1 x2 x3 : Value} (h : Box w B T #[x0, x1, x2, x3]) (v0 v1 v2 v3 : Value) : Box (set4 w B v0 v1 v2 v3) B T #[v0, v1, v2, v3] := by
  unfold set4
  have := (((h.set 0 v0).set 1 v1).set 2 v2).set 3 v3
  simpa using this
theorem mem_letters2 {w : World} {E : TypeId} {lo hi : Nat} {v0 v1 v3 : Value} {f : Bool} {d : (tMem E).D} (h : (tMem E).Own w lo hi [v0, v1, .bool f, v3] d) : ∃ a0 l0 c0 a1 l1 c1 a3 l3 c3, v0 = .slice a0 l0 c0 ∧ v1 = .slice a1 l1 c1 ∧ v3 = .slice a3 l3 c3 := by
  obtain ⟨a0, c0, a1, c1, a3, c3, h0, h1, _, h3, _⟩ := mem_rd h.rd
  exact ⟨a0, _, c0, a1, _, c1, a3, _, c3, h0, h1, h3⟩
theorem putD_le2 (x : Sup) : (putD x).length ≤ 9 := by
  unfold putD
  split <;> simp

set_option maxHeartbeats 6400000 in
theorem implWriteSuper_any (w : World) (E : TypeId) (a0 a1 a3 : Option Addr) (n0 c0 n1 c1 n3 c3 : Nat) (ss : List (List Int)) (cs : List (Int × List Int)) (f : Bool) (bs : List Int) (x : Sup) (h0 : tIntSS.Rd w [.slice a0 n0 c0] ss) (h1 : (tWrS E).Rd w [.slice a1 n1 c1] cs) (h3 : tIntS.Rd w [.slice a3 n3 c3] bs) (hw : wtMem (ss, cs, f, bs) ≤ 2097152) :
    Calls Try.prog 50 #[.agg #[.slice a0 n0 c0, .slice a1 n1 c1, .bool f, .slice a3 n3 c3], .agg #[.int .i64 x.id, .int .i64 x.gen, .int .i64 x.role, .int .i64 x.n, .int .i64 x.s, .int .i64 x.tail, .int .i64 x.lost, .int .i64 x.built]] w fun e w' => ∃ v0 v1 v3, e = .returned (.agg #[v0, v1, .bool f, v3]) ∧ (tMem 100).Own w' w.heap.size w'.heap.size [v0, v1, .bool f, v3] (ss, wsCS ss cs f bs x, f, wsBS ss cs f bs x) ∧ Below w.heap.size w w' := by
  have hA := ((new_below w (.cells #[.slice a0 n0 c0, .slice a1 n1 c1, .bool f, .slice a3 n3 c3] 57)).alloc (by simp) (.cells #[.int .i64 x.id, .int .i64 x.gen, .int .i64 x.role, .int .i64 x.n, .int .i64 x.s, .int .i64 x.tail, .int .i64 x.lost, .int .i64 x.built] 62)).alloc (by simp; omega) (.cells #[.slice none 0 0, .slice none 0 0, .bool false, .slice none 0 0] 57)
  have M0 := ((Box.new w 57 #[.slice a0 n0 c0, .slice a1 n1 c1, .bool f, .slice a3 n3 c3]).alloc (.cells #[.int .i64 x.id, .int .i64 x.gen, .int .i64 x.role, .int .i64 x.n, .int .i64 x.s, .int .i64 x.tail, .int .i64 x.lost, .int .i64 x.built] 62)).alloc (.cells #[.slice none 0 0, .slice none 0 0, .bool false, .slice none 0 0] 57)
  have S0 := (Box.new (w.alloc (.cells #[.slice a0 n0 c0, .slice a1 n1 c1, .bool f, .slice a3 n3 c3] 57)) 62 #[.int .i64 x.id, .int .i64 x.gen, .int .i64 x.role, .int .i64 x.n, .int .i64 x.s, .int .i64 x.tail, .int .i64 x.lost, .int .i64 x.built]).alloc (.cells #[.slice none 0 0, .slice none 0 0, .bool false, .slice none 0 0] 57)
  have R0 := Box.new ((w.alloc (.cells #[.slice a0 n0 c0, .slice a1 n1 c1, .bool f, .slice a3 n3 c3] 57)).alloc (.cells #[.int .i64 x.id, .int .i64 x.gen, .int .i64 x.role, .int .i64 x.n, .int .i64 x.s, .int .i64 x.tail, .int .i64 x.lost, .int .i64 x.built] 62)) 57 #[.slice none 0 0, .slice none 0 0, .bool false, .slice none 0 0]
  rw [World.size_alloc] at S0
  rw [World.size_alloc, World.size_alloc] at R0
  obtain ⟨x0, x1, x2, x3, x4, x5, x6, x7⟩ := S0.cells8
  go_enter Try.func50, Try.ntmps50
  go_wp2_with fail
  generalize ((w.alloc (.cells #[.slice a0 n0 c0, .slice a1 n1 c1, .bool f, .slice a3 n3 c3] 57)).alloc (.cells #[.int .i64 x.id, .int .i64 x.gen, .int .i64 x.role, .int .i64 x.n, .int .i64 x.s, .int .i64 x.tail, .int .i64 x.lost, .int .i64 x.built] 62)).alloc (.cells #[.slice none 0 0, .slice none 0 0, .bool false, .slice none 0 0] 57) = W at hA M0 S0 R0 x0 x1 x2 x3 x4 x5 x6 x7 ⊢
  refine (implSuperOk_any _ x).mono ?_
  rintro e w1 ⟨rfl, b1⟩
  have M1 := M0.below b1 M0.lt
  have S1 := S0.below b1 S0.lt
  have R1 := R0.below b1 R0.lt
  have B1 := Below.andThen hA b1
  clear x0 x1 x2 x3 x4 x5 x6 x7 M0 S0 R0 hA b1
  obtain ⟨q0, q1, q2, q3⟩ := M1.cells4
  have zR := R1.lt
  have zS := S1.lt
  have zM := M1.lt
  by_cases hx : supB x = true
  · have hg := (supB_iff.1 hx).2.2.2.2.1
    have e1 : x.gen.tmod 2 = x.gen % 2 := Int.tmod_eq_emod_of_nonneg hg.1
    have HC : Hid (wsCS ss cs f bs x = wrCS ss cs f bs (x.gen % 2) (putD x)) := by unfold Hid wsCS; rw [if_pos hx]
    have HB : Hid (wsBS ss cs f bs x = wrBS ss cs f bs (x.gen % 2) (putD x)) := by unfold Hid wsBS; rw [if_pos hx]
    have hpl := putD_le2 x
    obtain ⟨x0, x1, x2, x3, x4, x5, x6, x7⟩ := S1.cells8
    have HB1 := hidden B1
    have HR1 := hidden R1
    clear B1 R1
    have hS : ∀ w', Box w' w.heap.size 57 #[.slice a0 n0 c0, .slice a1 n1 c1, .bool f, .slice a3 n3 c3] → Box w' (w.heap.size + 1) 62 #[.int .i64 x.id, .int .i64 x.gen, .int .i64 x.role, .int .i64 x.n, .int .i64 x.s, .int .i64 x.tail, .int .i64 x.lost, .int .i64 x.built] → w'.cell? ⟨w.heap.size, 0, none⟩ = some (.slice a0 n0 c0) ∧ w'.cell? ⟨w.heap.size, 1, none⟩ = some (.slice a1 n1 c1) ∧ w'.cell? ⟨w.heap.size, 2, none⟩ = some (.bool f) ∧ w'.cell? ⟨w.heap.size, 3, none⟩ = some (.slice a3 n3 c3) ∧ w'.cell? ⟨w.heap.size + 1, 0, none⟩ = some (.int .i64 x.id) ∧ w'.cell? ⟨w.heap.size + 1, 1, none⟩ = some (.int .i64 x.gen) ∧ w'.cell? ⟨w.heap.size + 1, 2, none⟩ = some (.int .i64 x.role) ∧ w'.cell? ⟨w.heap.size + 1, 3, none⟩ = some (.int .i64 x.n) ∧ w'.cell? ⟨w.heap.size + 1, 4, none⟩ = some (.int .i64 x.s) ∧ w'.cell? ⟨w.heap.size + 1, 5, none⟩ = some (.int .i64 x.tail) ∧ w'.cell? ⟨w.heap.size + 1, 6, none⟩ = some (.int .i64 x.lost) ∧ w'.cell? ⟨w.heap.size + 1, 7, none⟩ = some (.int .i64 x.built) := fun w' hm hs => ⟨hm.cell 0, hm.cell 1, hm.cell 2, hm.cell 3, hs.cell 0, hs.cell 1, hs.cell 2, hs.cell 3, hs.cell 4, hs.cell 5, hs.cell 6, hs.cell 7⟩
    have hD : ∀ w', Box w' w.heap.size 57 #[.slice a0 n0 c0, .slice a1 n1 c1, .bool f, .slice a3 n3 c3] → Box w' (w.heap.size + 1) 62 #[.int .i64 x.id, .int .i64 x.gen, .int .i64 x.role, .int .i64 x.n, .int .i64 x.s, .int .i64 x.tail, .int .i64 x.lost, .int .i64 x.built] → w'.drew.cell? ⟨w.heap.size, 0, none⟩ = some (.slice a0 n0 c0) ∧ w'.drew.cell? ⟨w.heap.size, 1, none⟩ = some (.slice a1 n1 c1) ∧ w'.drew.cell? ⟨w.heap.size, 2, none⟩ = some (.bool f) ∧ w'.drew.cell? ⟨w.heap.size, 3, none⟩ = some (.slice a3 n3 c3) ∧ w'.drew.cell? ⟨w.heap.size + 1, 0, none⟩ = some (.int .i64 x.id) ∧ w'.drew.cell? ⟨w.heap.size + 1, 1, none⟩ = some (.int .i64 x.gen) ∧ w'.drew.cell? ⟨w.heap.size + 1, 2, none⟩ = some (.int .i64 x.role) ∧ w'.drew.cell? ⟨w.heap.size + 1, 3, none⟩ = some (.int .i64 x.n) ∧ w'.drew.cell? ⟨w.heap.size + 1, 4, none⟩ = some (.int .i64 x.s) ∧ w'.drew.cell? ⟨w.heap.size + 1, 5, none⟩ = some (.int .i64 x.tail) ∧ w'.drew.cell? ⟨w.heap.size + 1, 6, none⟩ = some (.int .i64 x.lost) ∧ w'.drew.cell? ⟨w.heap.size + 1, 7, none⟩ = some (.int .i64 x.built) := hS
    have HM1 := hidden M1
    have HS1 := hidden S1
    have nA : Hid (w.heap.size ≠ w1.heap.size) := by unfold Hid; omega
    have nA' : Hid (w.heap.size + 1 ≠ w1.heap.size) := by unfold Hid; omega
    have ZW : Hid (w.heap.size + 2 < w1.heap.size) := by unfold Hid; omega
    have HG := hidden hg.1
    clear M1 S1 hg
    go_wp2_with fail
    go_region_held3 (fun w' => w'.cell? ⟨w.heap.size, 0, none⟩ = some (.slice a0 n0 c0) ∧ w'.cell? ⟨w.heap.size, 1, none⟩ = some (.slice a1 n1 c1) ∧ w'.cell? ⟨w.heap.size, 2, none⟩ = some (.bool f) ∧ w'.cell? ⟨w.heap.size, 3, none⟩ = some (.slice a3 n3 c3) ∧ w'.cell? ⟨w.heap.size + 1, 0, none⟩ = some (.int .i64 x.id) ∧ w'.cell? ⟨w.heap.size + 1, 1, none⟩ = some (.int .i64 x.gen) ∧ w'.cell? ⟨w.heap.size + 1, 2, none⟩ = some (.int .i64 x.role) ∧ w'.cell? ⟨w.heap.size + 1, 3, none⟩ = some (.int .i64 x.n) ∧ w'.cell? ⟨w.heap.size + 1, 4, none⟩ = some (.int .i64 x.s) ∧ w'.cell? ⟨w.heap.size + 1, 5, none⟩ = some (.int .i64 x.tail) ∧ w'.cell? ⟨w.heap.size + 1, 6, none⟩ = some (.int .i64 x.lost) ∧ w'.cell? ⟨w.heap.size + 1, 7, none⟩ = some (.int .i64 x.built))
      (first
        | (with_reducible exact hS w4 M4.out S4.out)
        | (with_reducible exact hS _ (M4.out.alloc _) (S4.out.alloc _))
        | (with_reducible exact hS _ ((((M4.out.other nA.out 0 _).other nA.out 1 _).other nA.out 2 _).other nA.out 3 _) ((((S4.out.other nA'.out 0 _).other nA'.out 1 _).other nA'.out 2 _).other nA'.out 3 _))
        | (with_reducible exact hS _ ((((M4.out.other nB.out 0 _).other nB.out 1 _).other nB.out 2 _).other nB.out 3 _) ((((S4.out.other nB'.out 0 _).other nB'.out 1 _).other nB'.out 2 _).other nB'.out 3 _))
        | (with_reducible exact hS w3 M3.out S3.out)
        | (with_reducible exact hS _ (M3.out.alloc _) (S3.out.alloc _))
        | (with_reducible exact hD _ HM1.out HS1.out)
        | (with_reducible exact hD _ (HM1.out.alloc _) (HS1.out.alloc _))
        | go_keep)
      (first
        | (go_at_call 65; refine (superPlace_any _ _ HG.out).mono ?_; rintro e w2 ⟨rfl, rfl⟩)
        | (go_at_call 66; refine (implPutSuper_any _ x).mono ?_; rintro e w3 ⟨pa, pl, pc, rfl, o3, b3⟩; have hpl3 := (row_length o3.rd).1; have b3c : Below w1.drew.heap.size w1.drew w3 := (by with_reducible exact b3); have b3' : Below w1.heap.size w1 w3 := (Below.refl w1.heap.size w1).drew.trans b3c; have M3 := hidden (HM1.out.below b3' zM); have S3 := hidden (HS1.out.below b3' zS); have O3 := hidden o3; have hb3 := hidden b3'; clear b3 b3c b3' o3)
        | (go_at_call 53; have xo3 := XO3.out; refine (implWriteSec_any _ E _ _ _ _ _ _ _ _ _ _ _ _ ss cs f bs (x.gen % 2) (putD x) (by with_reducible exact h0.below (Below.andThen HB1.out hb3.out)) (by with_reducible exact h1.below (Below.andThen HB1.out hb3.out)) (by with_reducible exact h3.below (Below.andThen HB1.out hb3.out)) (by with_reducible exact O3.out.rd) hw (by omega)).mono ?_; rintro e w4 ⟨u0, u1, u3, rfl, o4, b4⟩; obtain ⟨fa0, fl0, fc0, fa1, fl1, fc1, fa3, fl3, fc3, hv0, hv1, hv3⟩ := mem_letters2 o4; subst hv0 hv1 hv3; have M4 := hidden (M3.out.below b4 M3.out.lt); have S4 := hidden (S3.out.below b4 S3.out.lt); have xo4 := xo3.below b4 xo3.lt; obtain ⟨s0, s1, s2, s3⟩ := xo4.cells4; have u0 := xo4.frozen 0; have u1 := xo4.frozen 1; have u2 := xo4.frozen 2; have u3 := xo4.frozen 3; have XO4 := hidden xo4; have O4 := hidden o4; have hb4 := hidden b4; clear b4 o4 xo4 xo3)
        | (go_at_call 53; refine (implWriteSec_any _ E _ _ _ _ _ _ _ _ _ _ _ _ ss cs f bs (x.gen % 2) (putD x) (by with_reducible exact h0.below (Below.andThen HB1.out hb3.out)) (by with_reducible exact h1.below (Below.andThen HB1.out hb3.out)) (by with_reducible exact h3.below (Below.andThen HB1.out hb3.out)) (by with_reducible exact O3.out.rd) hw (by omega)).mono ?_; rintro e w4 ⟨u0, u1, u3, rfl, o4, b4⟩; obtain ⟨fa0, fl0, fc0, fa1, fl1, fc1, fa3, fl3, fc3, hv0, hv1, hv3⟩ := mem_letters2 o4; subst hv0 hv1 hv3; have M4 := hidden (M3.out.below b4 M3.out.lt); have S4 := hidden (S3.out.below b4 S3.out.lt); have O4 := hidden o4; have hb4 := hidden b4; clear b4 o4)
        | (go_at_call 53; refine (implWriteSec_any _ E _ _ _ _ _ _ _ _ _ _ _ _ ss cs f bs (x.gen % 2) (putD x) (by with_reducible exact h0.below ((Below.andThen HB1.out hb3.out).alloc (Below.andThen HB1.out hb3.out).size _)) (by with_reducible exact h1.below ((Below.andThen HB1.out hb3.out).alloc (Below.andThen HB1.out hb3.out).size _)) (by with_reducible exact h3.below ((Below.andThen HB1.out hb3.out).alloc (Below.andThen HB1.out hb3.out).size _)) (by with_reducible exact (O3.out.rd.below (new_below w3 _))) hw (by omega)).mono ?_; rintro e w4 ⟨u0, u1, u3, rfl, o4, b4⟩; obtain ⟨fa0, fl0, fc0, fa1, fl1, fc1, fa3, fl3, fc3, hv0, hv1, hv3⟩ := mem_letters2 o4; subst hv0 hv1 hv3; have M4 := hidden ((M3.out.alloc (.cells #[.slice none 0 0, .slice none 0 0, .bool false, .slice none 0 0] 57)).below b4 (M3.out.alloc (.cells #[.slice none 0 0, .slice none 0 0, .bool false, .slice none 0 0] 57)).lt); have S4 := hidden ((S3.out.alloc (.cells #[.slice none 0 0, .slice none 0 0, .bool false, .slice none 0 0] 57)).below b4 (S3.out.alloc (.cells #[.slice none 0 0, .slice none 0 0, .bool false, .slice none 0 0] 57)).lt); have xp4 := (Box.new w3 57 #[.slice none 0 0, .slice none 0 0, .bool false, .slice none 0 0]).below b4 (by simp); obtain ⟨s0, s1, s2, s3⟩ := xp4.cells4; have u0 := xp4.frozen 0; have u1 := xp4.frozen 1; have u2 := xp4.frozen 2; have u3 := xp4.frozen 3; have z3 := hb3.out.size; have zW := ZW.out; have nB : Hid (w.heap.size ≠ w3.heap.size) := (by unfold Hid; omega); have nB' : Hid (w.heap.size + 1 ≠ w3.heap.size) := (by unfold Hid; omega); have XP4 := hidden xp4; have O4 := hidden o4; have hb4 := hidden b4; clear b4 o4 xp4 z3 zW)
        | (go_at_call 66; refine (implPutSuper_any _ x).mono ?_; rintro e w3 ⟨pa, pl, pc, rfl, o3, b3⟩; have hpl3 := (row_length o3.rd).1; have ba : Below w1.heap.size w1 (w1.alloc (.cells #[.slice none 0 0, .slice none 0 0, .bool false, .slice none 0 0] 57)) := new_below w1 _; have b3c : Below (w1.alloc (.cells #[.slice none 0 0, .slice none 0 0, .bool false, .slice none 0 0] 57)).drew.heap.size (w1.alloc (.cells #[.slice none 0 0, .slice none 0 0, .bool false, .slice none 0 0] 57)).drew w3 := (by with_reducible exact b3); have b3a : Below (w1.alloc (.cells #[.slice none 0 0, .slice none 0 0, .bool false, .slice none 0 0] 57)).heap.size (w1.alloc (.cells #[.slice none 0 0, .slice none 0 0, .bool false, .slice none 0 0] 57)) w3 := (Below.refl _ (w1.alloc (.cells #[.slice none 0 0, .slice none 0 0, .bool false, .slice none 0 0] 57))).drew.trans b3c; have b3' : Below w1.heap.size w1 w3 := Below.andThen ba b3a; have M3 := hidden (HM1.out.below b3' zM); have S3 := hidden (HS1.out.below b3' zS); have XO3 := hidden ((Box.new w1 57 #[.slice none 0 0, .slice none 0 0, .bool false, .slice none 0 0]).below b3a (by simp)); have O3 := hidden o3; have hb3 := hidden b3'; clear b3 b3c b3a ba b3' o3))
    · have z4 := hb4.out.size
      have z3 := hb3.out.size
      have zW := ZW.out
      have B4 := Below.andThen HB1.out (Below.andThen hb3.out hb4.out)
      have RF0 := (HR1.out.below (Below.andThen hb3.out hb4.out) zR).alloc (.cells #[.slice fa0 fl0 fc0, .slice fa1 fl1 fc1, .bool f, .slice fa3 fl3 fc3] 57)
      have YF0 := Box.new w4 57 #[.slice fa0 fl0 fc0, .slice fa1 fl1 fc1, .bool f, .slice fa3 fl3 fc3]
      have OF0 := (O4.out.below (new_below w4 (.cells #[.slice fa0 fl0 fc0, .slice fa1 fl1 fc1, .bool f, .slice fa3 fl3 fc3] 57))).widen (lo' := w1.heap.size) (hi' := (w4.alloc (.cells #[.slice fa0 fl0 fc0, .slice fa1 fl1 fc1, .bool f, .slice fa3 fl3 fc3] 57)).heap.size) (by omega) (by simp)
      have BF0 := B4.alloc B4.size (.cells #[.slice fa0 fl0 fc0, .slice fa1 fl1 fc1, .bool f, .slice fa3 fl3 fc3] 57)
      have ZF0 : w.heap.size + 2 < w1.heap.size := zW
      clear B4
      have RF := RF0
      have HBF := hidden BF0
      have HYF := hidden YF0
      have HOF := hidden OF0
      have zF := ZF0
      clear RF0 BF0 YF0 OF0 ZF0
      generalize w4.alloc (.cells #[.slice fa0 fl0 fc0, .slice fa1 fl1 fc1, .bool f, .slice fa3 fl3 fc3] 57) = WF at RF HBF HYF HOF zF ⊢
      generalize w4.heap.size = BO at HYF ⊢
      obtain ⟨y0, y1, y2, y3⟩ := HYF.out.cells4
      obtain ⟨r0, r1, r2, r3⟩ := RF.cells4
      have fz := RF.frozen
      have hbt := set4_but WF (w.heap.size + 1 + 1) (.slice fa0 fl0 fc0) (.slice fa1 fl1 fc1) (.bool f) (.slice fa3 fl3 fc3)
      have zt := hbt.size
      have FO := hidden ((HOF.out.but hbt (.inr (by omega))).widen (lo' := w.heap.size) (hi' := (set4 WF (w.heap.size + 1 + 1) (.slice fa0 fl0 fc0) (.slice fa1 fl1 fc1) (.bool f) (.slice fa3 fl3 fc3)).heap.size) (by omega) hbt.size)
      rw [← HC.out, ← HB.out] at FO
      have FB := hidden (Below.andBut HBF.out hbt (by omega))
      unfold set4 at FO FB
      clear hbt RF HBF HYF HOF zt
      go_wp2
      refine bodyPost_ret (v := .agg #[.slice fa0 fl0 fc0, .slice fa1 fl1 fc1, .bool f, .slice fa3 fl3 fc3]) (by simp [results, Try.results50, go_sem, r0, r1, r2, r3]) rfl ?_
      exact ⟨_, _, _, rfl, FO.out, FB.out⟩
    · have xo4 := XP4.out
      have zal : (w3.alloc (.cells #[.slice none 0 0, .slice none 0 0, .bool false, .slice none 0 0] 57)).heap.size = w3.heap.size + 1 := by simp
      have z4 := hb4.out.size
      have z3 := hb3.out.size
      have zW := ZW.out
      have hbs := set4_but w4 w3.heap.size (.slice fa0 fl0 fc0) (.slice fa1 fl1 fc1) (.bool f) (.slice fa3 fl3 fc3)
      have zs := hbs.size
      have B4 := Below.andThen HB1.out (Below.andThen hb3.out (Below.andThen (new_below w3 _) hb4.out))
      have RF0 := (HR1.out.below (Below.andThen hb3.out (Below.andThen (new_below w3 _) hb4.out)) zR).kept (hbs.block _ (by omega) (by omega))
      have YF0 := (((xo4.set 0 (.slice fa0 fl0 fc0)).set 1 (.slice fa1 fl1 fc1)).set 2 (.bool f)).set 3 (.slice fa3 fl3 fc3)
      have OF0 := ((O4.out.but hbs (.inr (by omega))).widen (lo' := w1.heap.size) (hi' := (set4 w4 w3.heap.size (.slice fa0 fl0 fc0) (.slice fa1 fl1 fc1) (.bool f) (.slice fa3 fl3 fc3)).heap.size) (by omega) zs)
      have BF0 := Below.andBut B4 hbs (by omega)
      have ZF0 : w.heap.size + 2 < w1.heap.size := zW
      unfold set4 at RF0 OF0 BF0
      clear hbs zs B4 xo4
      have RF := RF0
      have HBF := hidden BF0
      have HYF := hidden YF0
      have HOF := hidden OF0
      have zF := ZF0
      clear RF0 BF0 YF0 OF0 ZF0
      generalize ((((w4.setCell ⟨w3.heap.size, 0, none⟩ (.slice fa0 fl0 fc0)).setCell ⟨w3.heap.size, 1, none⟩ (.slice fa1 fl1 fc1)).setCell ⟨w3.heap.size, 2, none⟩ (.bool f)).setCell ⟨w3.heap.size, 3, none⟩ (.slice fa3 fl3 fc3)) = WF at RF HBF HYF HOF zF ⊢
      generalize w3.heap.size = BO at HYF ⊢
      obtain ⟨y0, y1, y2, y3⟩ := HYF.out.cells4
      obtain ⟨r0, r1, r2, r3⟩ := RF.cells4
      have fz := RF.frozen
      have hbt := set4_but WF (w.heap.size + 1 + 1) (.slice fa0 fl0 fc0) (.slice fa1 fl1 fc1) (.bool f) (.slice fa3 fl3 fc3)
      have zt := hbt.size
      have FO := hidden ((HOF.out.but hbt (.inr (by omega))).widen (lo' := w.heap.size) (hi' := (set4 WF (w.heap.size + 1 + 1) (.slice fa0 fl0 fc0) (.slice fa1 fl1 fc1) (.bool f) (.slice fa3 fl3 fc3)).heap.size) (by omega) hbt.size)
      rw [← HC.out, ← HB.out] at FO
      have FB := hidden (Below.andBut HBF.out hbt (by omega))
      unfold set4 at FO FB
      clear hbt RF HBF HYF HOF zt
      go_wp2
      refine bodyPost_ret (v := .agg #[.slice fa0 fl0 fc0, .slice fa1 fl1 fc1, .bool f, .slice fa3 fl3 fc3]) (by simp [results, Try.results50, go_sem, r0, r1, r2, r3]) rfl ?_
      exact ⟨_, _, _, rfl, FO.out, FB.out⟩
    · have xo4 := XO4.out
      have zal := XO3.out.lt
      have z4 := hb4.out.size
      have z3 := hb3.out.size
      have zW := ZW.out
      have hbs := set4_but w4 w1.heap.size (.slice fa0 fl0 fc0) (.slice fa1 fl1 fc1) (.bool f) (.slice fa3 fl3 fc3)
      have zs := hbs.size
      have B4 := Below.andThen HB1.out (Below.andThen hb3.out hb4.out)
      have RF0 := (HR1.out.below (Below.andThen hb3.out hb4.out) zR).kept (hbs.block _ (by omega) (by omega))
      have YF0 := (((xo4.set 0 (.slice fa0 fl0 fc0)).set 1 (.slice fa1 fl1 fc1)).set 2 (.bool f)).set 3 (.slice fa3 fl3 fc3)
      have OF0 := ((O4.out.but hbs (.inr (by omega))).widen (lo' := w1.heap.size) (hi' := (set4 w4 w1.heap.size (.slice fa0 fl0 fc0) (.slice fa1 fl1 fc1) (.bool f) (.slice fa3 fl3 fc3)).heap.size) (by omega) zs)
      have BF0 := Below.andBut B4 hbs (by omega)
      have ZF0 : w.heap.size + 2 < w1.heap.size := zW
      unfold set4 at RF0 OF0 BF0
      clear hbs zs B4 xo4
      have RF := RF0
      have HBF := hidden BF0
      have HYF := hidden YF0
      have HOF := hidden OF0
      have zF := ZF0
      clear RF0 BF0 YF0 OF0 ZF0
      generalize ((((w4.setCell ⟨w1.heap.size, 0, none⟩ (.slice fa0 fl0 fc0)).setCell ⟨w1.heap.size, 1, none⟩ (.slice fa1 fl1 fc1)).setCell ⟨w1.heap.size, 2, none⟩ (.bool f)).setCell ⟨w1.heap.size, 3, none⟩ (.slice fa3 fl3 fc3)) = WF at RF HBF HYF HOF zF ⊢
      generalize w1.heap.size = BO at HYF ⊢
      obtain ⟨y0, y1, y2, y3⟩ := HYF.out.cells4
      obtain ⟨r0, r1, r2, r3⟩ := RF.cells4
      have fz := RF.frozen
      have hbt := set4_but WF (w.heap.size + 1 + 1) (.slice fa0 fl0 fc0) (.slice fa1 fl1 fc1) (.bool f) (.slice fa3 fl3 fc3)
      have zt := hbt.size
      have FO := hidden ((HOF.out.but hbt (.inr (by omega))).widen (lo' := w.heap.size) (hi' := (set4 WF (w.heap.size + 1 + 1) (.slice fa0 fl0 fc0) (.slice fa1 fl1 fc1) (.bool f) (.slice fa3 fl3 fc3)).heap.size) (by omega) hbt.size)
      rw [← HC.out, ← HB.out] at FO
      have FB := hidden (Below.andBut HBF.out hbt (by omega))
      unfold set4 at FO FB
      clear hbt RF HBF HYF HOF zt
      go_wp2
      refine bodyPost_ret (v := .agg #[.slice fa0 fl0 fc0, .slice fa1 fl1 fc1, .bool f, .slice fa3 fl3 fc3]) (by simp [results, Try.results50, go_sem, r0, r1, r2, r3]) rfl ?_
      exact ⟨_, _, _, rfl, FO.out, FB.out⟩
    · have xo4 := XO4.out
      have zal := XO3.out.lt
      have z4 := hb4.out.size
      have z3 := hb3.out.size
      have zW := ZW.out
      have hbs := set4_but w4 w1.heap.size (.slice fa0 fl0 fc0) (.slice fa1 fl1 fc1) (.bool f) (.slice fa3 fl3 fc3)
      have zs := hbs.size
      have B4 := Below.andThen HB1.out (Below.andThen hb3.out hb4.out)
      have RF0 := (HR1.out.below (Below.andThen hb3.out hb4.out) zR).kept (hbs.block _ (by omega) (by omega))
      have YF0 := (((xo4.set 0 (.slice fa0 fl0 fc0)).set 1 (.slice fa1 fl1 fc1)).set 2 (.bool f)).set 3 (.slice fa3 fl3 fc3)
      have OF0 := ((O4.out.but hbs (.inr (by omega))).widen (lo' := w1.heap.size) (hi' := (set4 w4 w1.heap.size (.slice fa0 fl0 fc0) (.slice fa1 fl1 fc1) (.bool f) (.slice fa3 fl3 fc3)).heap.size) (by omega) zs)
      have BF0 := Below.andBut B4 hbs (by omega)
      have ZF0 : w.heap.size + 2 < w1.heap.size := zW
      unfold set4 at RF0 OF0 BF0
      clear hbs zs B4 xo4
      have RF := RF0
      have HBF := hidden BF0
      have HYF := hidden YF0
      have HOF := hidden OF0
      have zF := ZF0
      clear RF0 BF0 YF0 OF0 ZF0
      generalize ((((w4.setCell ⟨w1.heap.size, 0, none⟩ (.slice fa0 fl0 fc0)).setCell ⟨w1.heap.size, 1, none⟩ (.slice fa1 fl1 fc1)).setCell ⟨w1.heap.size, 2, none⟩ (.bool f)).setCell ⟨w1.heap.size, 3, none⟩ (.slice fa3 fl3 fc3)) = WF at RF HBF HYF HOF zF ⊢
      generalize w1.heap.size = BO at HYF ⊢
      obtain ⟨y0, y1, y2, y3⟩ := HYF.out.cells4
      obtain ⟨r0, r1, r2, r3⟩ := RF.cells4
      have fz := RF.frozen
      have hbt := set4_but WF (w.heap.size + 1 + 1) (.slice fa0 fl0 fc0) (.slice fa1 fl1 fc1) (.bool f) (.slice fa3 fl3 fc3)
      have zt := hbt.size
      have FO := hidden ((HOF.out.but hbt (.inr (by omega))).widen (lo' := w.heap.size) (hi' := (set4 WF (w.heap.size + 1 + 1) (.slice fa0 fl0 fc0) (.slice fa1 fl1 fc1) (.bool f) (.slice fa3 fl3 fc3)).heap.size) (by omega) hbt.size)
      rw [← HC.out, ← HB.out] at FO
      have FB := hidden (Below.andBut HBF.out hbt (by omega))
      unfold set4 at FO FB
      clear hbt RF HBF HYF HOF zt
      go_wp2
      refine bodyPost_ret (v := .agg #[.slice fa0 fl0 fc0, .slice fa1 fl1 fc1, .bool f, .slice fa3 fl3 fc3]) (by simp [results, Try.results50, go_sem, r0, r1, r2, r3]) rfl ?_
      exact ⟨_, _, _, rfl, FO.out, FB.out⟩
  · have hx' : supB x = false := by simpa using hx
    have HC : Hid (wsCS ss cs f bs x = cs) := by unfold Hid wsCS; rw [if_neg hx]
    have HB : Hid (wsBS ss cs f bs x = bs) := by unfold Hid wsBS; rw [if_neg hx]
    go_wp2_with fail
    refine (copyMem_any _ E _ _ _ _ _ _ _ _ _ ss cs f bs (h0.below B1) (h1.below B1) (h3.below B1) hw).mono ?_
    rintro e w2 ⟨v0, v1, v3, m1, m2, rfl, k3, k0, k1, zm1, zm2, zm3, b2⟩
    have R2 := R1.below b2 zR
    have B2 := Below.andThen B1 b2
    obtain ⟨fa0, fc0, rfl⟩ := row_shape k0.rd
    obtain ⟨fa1, fc1, rfl⟩ := row_shape k1.rd
    obtain ⟨fa3, fc3, rfl⟩ := row_shape k3.rd
    obtain ⟨r0, r1, r2, r3⟩ := R2.cells4
    have fz := R2.frozen
    have zw := b2.size
    have hbt := set4_but w2 (w.heap.size + 1 + 1) (.slice fa0 ss.length fc0) (.slice fa1 cs.length fc1) (.bool f) (.slice fa3 bs.length fc3)
    have zt := hbt.size
    have FO := hidden (mem_own3 (lo := w.heap.size) (hi := (set4 w2 (w.heap.size + 1 + 1) (.slice fa0 ss.length fc0) (.slice fa1 cs.length fc1) (.bool f) (.slice fa3 bs.length fc3)).heap.size) (f := f) (k0.but hbt (by omega)) (k1.but hbt (by omega)) (k3.but hbt (by omega)) (by omega) (by omega) (by omega) (by omega) (by omega) (by omega))
    have FB := hidden (Below.andBut B2 hbt (by omega))
    unfold set4 at FO FB
    clear hbt R1 R2 B1 B2 b2 q0 q1 q2 q3 M1 S1 k0 k1 k3 zt
    go_wp2
    refine bodyPost_ret (v := .agg #[.slice fa0 ss.length fc0, .slice fa1 cs.length fc1, .bool f, .slice fa3 bs.length fc3]) (by simp [results, Try.results50, go_sem, r0, r1, r2, r3]) rfl ?_
    exact ⟨_, _, _, rfl, by rw [HC.out, HB.out]; exact FO.out, FB.out⟩

end Go.Proofs.Ytgjldmjlbhkgbaa
