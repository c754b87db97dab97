/-
  The walk of the specification's StepsOf. Condition: at most 2097152 words.
-/
import Derived.Test.YtbkkjfgjlapadaaSteps16
import Derived.Test.YtbkkjfgjlapadaaWalkCmdS
import Derived.Test.YtbkkjfgjlapadaaWalkGeoSpec
namespace Go.Proofs.Ytbkkjfgjlapadaa
open Go.RowKit

theorem steps_fua {gn gs b k : Int} {zs : List Int} : (zs.length : Int) + stripeN gn gs (b + (zs.length : Int) - 1) - stripeN gn gs b + 2 = partsC gn gs 3 b k zs + 1 := by
  rw [parts3, len2 (.inr rfl)]
  omega

set_option maxRecDepth 20000 in
set_option maxHeartbeats 3200000 in
theorem specStepsOf_any (w : World) (gn gs : Int) (o d b k : Int) (a : Option Addr) (n cap : Nat) (zs : List Int) (hz : zs.length = n) (hr : Reads .i64 w a zs) (hn : n ≤ 2097152) :
    Calls Try.prog 16 #[.agg #[.int .i64 gn, .int .i64 gs], .agg #[.int .i64 o, .int .i64 d, .int .i64 b, .int .i64 k, .slice a n cap]] w fun e w' => e = .returned (.int .i64 (stepsC gn gs o d b k zs)) ∧ Below w.heap.size w w' := by
  have hA : Below w.heap.size w ((w.alloc (.cells #[.int .i64 gn, .int .i64 gs] 25)).alloc (.cells #[.int .i64 o, .int .i64 d, .int .i64 b, .int .i64 k, .slice a n cap] 28)) := (new_below w _).alloc (by simp) _
  have G : Box ((w.alloc (.cells #[.int .i64 gn, .int .i64 gs] 25)).alloc (.cells #[.int .i64 o, .int .i64 d, .int .i64 b, .int .i64 k, .slice a n cap] 28)) w.heap.size 25 #[.int .i64 gn, .int .i64 gs] := (Box.new w _ _).below (new_below _ _) (by simp)
  have X : Box ((w.alloc (.cells #[.int .i64 gn, .int .i64 gs] 25)).alloc (.cells #[.int .i64 o, .int .i64 d, .int .i64 b, .int .i64 k, .slice a n cap] 28)) (w.heap.size + 1) 28 #[.int .i64 o, .int .i64 d, .int .i64 b, .int .i64 k, .slice a n cap] := by
    have := Box.new (w.alloc (.cells #[.int .i64 gn, .int .i64 gs] 25)) 28 #[.int .i64 o, .int .i64 d, .int .i64 b, .int .i64 k, .slice a n cap]
    simpa using this
  have hr' := hr.below hA
  subst hz
  obtain ⟨g0, g1⟩ := G.cells2
  obtain ⟨c0, c1, c2, c3, c4⟩ := X.cells5
  go_enter Try.func16, Try.ntmps16
  go_wp2_with fail
  generalize (w.alloc (.cells #[.int .i64 gn, .int .i64 gs] 25)).alloc (.cells #[.int .i64 o, .int .i64 d, .int .i64 b, .int .i64 k, .slice a zs.length cap] 28) = W0 at hA G X hr' g0 g1 c0 c1 c2 c3 c4 ⊢
  have B0 := hA
  have G0 := G
  have X0 := X
  have R0 := hr'
  clear hA G X hr' hr
  refine (specCmdCode_any _ gn gs o d b k _ _ _ zs rfl R0 hn).mono ?_
  rintro e w1 ⟨rfl, b1⟩
  have B1 := Below.andThen B0 b1
  have G1 := G0.below b1 G0.lt
  have X1 := X0.below b1 X0.lt
  have R1 := R0.below b1
  clear g0 g1 c0 c1 c2 c3 c4
  obtain ⟨g0, g1⟩ := G1.cells2
  obtain ⟨c0, c1, c2, c3, c4⟩ := X1.cells5
  clear B0 G0 X0 R0 b1
  by_cases hc : codeC gn gs o d b k zs = 0
  rotate_left
  · have HS := hidden (steps_bad hc)
    go_wp2
    go_ret
    exact ⟨ret_int HS.out.symm, B1⟩
  have hcb : (codeC gn gs o d b k zs == 0) = true := by simpa using hc
  obtain ⟨l0, l1, e0, e1, hb⟩ := good_small hc
  have HS := hidden (steps_good hc)
  by_cases h4 : o = 4
  · subst h4
    have hv : IntKind.i64.wrap (gs + 1) = gs + 1 := IntWalk.i64_in _ (by omega)
    go_wp2
    go_ret
    exact ⟨ret_int HS.out.symm, B1⟩
  by_cases h5 : o = 5
  · subst h5
    go_wp2
    go_ret
    exact ⟨ret_int HS.out.symm, B1⟩
  by_cases h3 : o = 3
  · subst h3
    obtain ⟨hb0, hb1⟩ := hb (by decide)
    have hl := len2 (o := 3) (k := k) (zs := zs) (.inr rfl)
    rw [hl] at l0 l1
    have s1 := stripeN_small gn gs (b + (zs.length : Int) - 1)
    have s2 := stripeN_small gn gs b
    have hv0 : IntKind.i64.wrap (b + (zs.length : Int)) = b + (zs.length : Int) := IntWalk.i64_in _ (by omega)
    have hv1 : IntKind.i64.wrap (b + (zs.length : Int) - 1) = b + (zs.length : Int) - 1 := IntWalk.i64_in _ (by omega)
    have hv2 : IntKind.i64.wrap ((zs.length : Int) + stripeN gn gs (b + (zs.length : Int) - 1)) = (zs.length : Int) + stripeN gn gs (b + (zs.length : Int) - 1) := IntWalk.i64_in _ (by omega)
    have hv3 : IntKind.i64.wrap ((zs.length : Int) + stripeN gn gs (b + (zs.length : Int) - 1) - stripeN gn gs b) = (zs.length : Int) + stripeN gn gs (b + (zs.length : Int) - 1) - stripeN gn gs b := IntWalk.i64_in _ (by omega)
    have hv4 : IntKind.i64.wrap ((zs.length : Int) + stripeN gn gs (b + (zs.length : Int) - 1) - stripeN gn gs b + 2) = (zs.length : Int) + stripeN gn gs (b + (zs.length : Int) - 1) - stripeN gn gs b + 2 := IntWalk.i64_in _ (by omega)
    have HF := hidden (steps_fua (gn := gn) (gs := gs) (b := b) (k := k) (zs := zs))
    clear s1 s2 hl hb
    have zg := G1.lt
    have zx := X1.lt
    go_wp2_with fail
    have q0 : Below w1.heap.size w1 w1.drew := (Below.refl _ _).drew
    go_region_held3 (fun w' => w'.cell? ⟨w.heap.size, 0, none⟩ = some (.int .i64 gn) ∧ w'.cell? ⟨w.heap.size, 1, none⟩ = some (.int .i64 gs) ∧ w'.cell? ⟨w.heap.size + 1, 0, none⟩ = some (.int .i64 3) ∧ w'.cell? ⟨w.heap.size + 1, 1, none⟩ = some (.int .i64 d) ∧ w'.cell? ⟨w.heap.size + 1, 2, none⟩ = some (.int .i64 b) ∧ w'.cell? ⟨w.heap.size + 1, 3, none⟩ = some (.int .i64 k) ∧ w'.cell? ⟨w.heap.size + 1, 4, none⟩ = some (.slice a zs.length cap))
      (first | (exact ⟨(q2.cell (p := ⟨w.heap.size, 0, none⟩) zg).trans g0, (q2.cell (p := ⟨w.heap.size, 1, none⟩) zg).trans g1, (q2.cell (p := ⟨w.heap.size + 1, 0, none⟩) zx).trans c0, (q2.cell (p := ⟨w.heap.size + 1, 1, none⟩) zx).trans c1, (q2.cell (p := ⟨w.heap.size + 1, 2, none⟩) zx).trans c2, (q2.cell (p := ⟨w.heap.size + 1, 3, none⟩) zx).trans c3, (q2.cell (p := ⟨w.heap.size + 1, 4, none⟩) zx).trans c4⟩) | (exact ⟨(q1.cell (p := ⟨w.heap.size, 0, none⟩) zg).trans g0, (q1.cell (p := ⟨w.heap.size, 1, none⟩) zg).trans g1, (q1.cell (p := ⟨w.heap.size + 1, 0, none⟩) zx).trans c0, (q1.cell (p := ⟨w.heap.size + 1, 1, none⟩) zx).trans c1, (q1.cell (p := ⟨w.heap.size + 1, 2, none⟩) zx).trans c2, (q1.cell (p := ⟨w.heap.size + 1, 3, none⟩) zx).trans c3, (q1.cell (p := ⟨w.heap.size + 1, 4, none⟩) zx).trans c4⟩) | (exact ⟨g0, g1, c0, c1, c2, c3, c4⟩) | go_keep)
      (first | (have gq := q1; clear gq; go_at_call 36; refine (specStripeOf_any _ gn gs b).mono ?_; rintro e v2 ⟨rfl, p2⟩; have q2 : Below w1.heap.size w1 v2 := Below.andThen q1 p2) | (have gq := q0; clear gq; go_at_call 36; refine (specStripeOf_any _ gn gs (b + (zs.length : Int) - 1)).mono ?_; rintro e v1 ⟨rfl, p1⟩; have q1 : Below w1.heap.size w1 v1 := Below.andThen q0 p1))
    have HB := hidden (Below.andThen B1 q2)
    go_wp2
    go_ret
    exact ⟨ret_int (HF.out.trans HS.out.symm), HB.out⟩
  have HP := hidden (parts_else (gn := gn) (gs := gs) (b := b) (k := k) (zs := zs) h3 h4 h5)
  have hv : IntKind.i64.wrap (lenC o k zs + 1) = lenC o k zs + 1 := IntWalk.i64_in _ (by omega)
  go_wp2_with fail
  refine (specLen13_any _ o d b k _ _ _ zs rfl R1 hn).mono ?_
  rintro e w2 ⟨rfl, b2⟩
  have HB := hidden (Below.andThen B1 b2)
  go_wp2
  go_ret
  exact ⟨ret_int (by rw [HS.out, HP.out]), HB.out⟩

end Go.Proofs.Ytbkkjfgjlapadaa
