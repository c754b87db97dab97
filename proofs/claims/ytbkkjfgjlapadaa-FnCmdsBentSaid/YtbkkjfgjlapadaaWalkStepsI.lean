/-
  The walks of the program's stripesUnder, partsOf and StepsOf. Condition: at most 2097152 words; of the first two: the command is right.
-/
import Derived.Test.YtbkkjfgjlapadaaSteps16
import Derived.Test.YtbkkjfgjlapadaaWalkCmdI
namespace Go.Proofs.Ytbkkjfgjlapadaa
open Go.RowKit

set_option maxRecDepth 20000 in
set_option maxHeartbeats 3200000 in
theorem stripesUnder_any (w : World) (gn gs : Int) (o d b k : Int) (a : Option Addr) (n cap : Nat) (zs : List Int) (hz : zs.length = n) (hr : Reads .i64 w a zs) (hn : n ≤ 2097152) (hc : codeC gn gs o d b k zs = 0) (h4 : ¬ o = 4) :
    Calls Try.prog 47 #[.agg #[.int .i64 gn, .int .i64 gs], .agg #[.int .i64 o, .int .i64 d, .int .i64 b, .int .i64 k, .slice a n cap]] w fun e w' => e = .returned (.int .i64 (stripeN gn gs (b + lenC o k zs - 1) - stripeN gn gs b + 1)) ∧ Below w.heap.size w w' := by
  obtain ⟨l0, l1, _, _, hb⟩ := good_small hc
  obtain ⟨hb0, hb1⟩ := hb h4
  have HS := hidden (span_own hc h4)
  have hA : Below w.heap.size w ((w.alloc (.cells #[.int .i64 gn, .int .i64 gs] 25)).alloc (.cells #[.int .i64 o, .int .i64 d, .int .i64 b, .int .i64 k, .slice a n cap] 28)) := (new_below w _).alloc (by simp) _
  have G : Box ((w.alloc (.cells #[.int .i64 gn, .int .i64 gs] 25)).alloc (.cells #[.int .i64 o, .int .i64 d, .int .i64 b, .int .i64 k, .slice a n cap] 28)) w.heap.size 25 #[.int .i64 gn, .int .i64 gs] := (Box.new w _ _).below (new_below _ _) (by simp)
  have X : Box ((w.alloc (.cells #[.int .i64 gn, .int .i64 gs] 25)).alloc (.cells #[.int .i64 o, .int .i64 d, .int .i64 b, .int .i64 k, .slice a n cap] 28)) (w.heap.size + 1) 28 #[.int .i64 o, .int .i64 d, .int .i64 b, .int .i64 k, .slice a n cap] := by
    have := Box.new (w.alloc (.cells #[.int .i64 gn, .int .i64 gs] 25)) 28 #[.int .i64 o, .int .i64 d, .int .i64 b, .int .i64 k, .slice a n cap]
    simpa using this
  have hr' := hr.below hA
  subst hz
  obtain ⟨g0, g1⟩ := G.cells2
  obtain ⟨c0, c1, c2, c3, c4⟩ := X.cells5
  go_enter Try.func47, Try.ntmps47
  go_wp2_with fail
  generalize (w.alloc (.cells #[.int .i64 gn, .int .i64 gs] 25)).alloc (.cells #[.int .i64 o, .int .i64 d, .int .i64 b, .int .i64 k, .slice a zs.length cap] 28) = W0 at hA G X hr' g0 g1 c0 c1 c2 c3 c4 ⊢
  have B0 := hA
  have G0 := G
  have X0 := X
  have R0 := hr'
  clear hA G X hr' hr
  refine (implSpanOf_any _ gn gs o d b k _ _ _ zs rfl R0 hn).mono ?_
  rintro e w1 ⟨rfl, b1⟩
  have B1 := Below.andThen B0 b1
  have G1 := G0.below b1 G0.lt
  have X1 := X0.below b1 X0.lt
  have R1 := R0.below b1
  clear g0 g1 c0 c1 c2 c3 c4
  obtain ⟨g0, g1⟩ := G1.cells2
  obtain ⟨c0, c1, c2, c3, c4⟩ := X1.cells5
  clear B0 G0 X0 R0 b1
  rw [HS.out]
  have s1 := stripeN_small gn gs (b + lenC o k zs - 1)
  have s2 := stripeN_small gn gs b
  have hv1 : IntKind.i64.wrap (b + lenC o k zs - 1) = b + lenC o k zs - 1 := IntWalk.i64_in _ (by omega)
  have hv2 : IntKind.i64.wrap (stripeN gn gs (b + lenC o k zs - 1) - stripeN gn gs b) = stripeN gn gs (b + lenC o k zs - 1) - stripeN gn gs b := IntWalk.i64_in _ (by omega)
  have hv3 : IntKind.i64.wrap (stripeN gn gs (b + lenC o k zs - 1) - stripeN gn gs b + 1) = stripeN gn gs (b + lenC o k zs - 1) - stripeN gn gs b + 1 := IntWalk.i64_in _ (by omega)
  clear s1 s2
  have zg := G1.lt
  have zx := X1.lt
  go_wp2_with fail
  have q0 : Below w1.heap.size w1 w1.drew := (Below.refl _ _).drew
  go_region_held3 (fun w' => w'.cell? ⟨w.heap.size, 0, none⟩ = some (.int .i64 gn) ∧ w'.cell? ⟨w.heap.size, 1, none⟩ = some (.int .i64 gs) ∧ w'.cell? ⟨w.heap.size + 1, 0, none⟩ = some (.int .i64 o) ∧ w'.cell? ⟨w.heap.size + 1, 1, none⟩ = some (.int .i64 d) ∧ w'.cell? ⟨w.heap.size + 1, 2, none⟩ = some (.int .i64 b) ∧ w'.cell? ⟨w.heap.size + 1, 3, none⟩ = some (.int .i64 k) ∧ w'.cell? ⟨w.heap.size + 1, 4, none⟩ = some (.slice a zs.length cap))
    (first | (exact ⟨(q2.cell (p := ⟨w.heap.size, 0, none⟩) zg).trans g0, (q2.cell (p := ⟨w.heap.size, 1, none⟩) zg).trans g1, (q2.cell (p := ⟨w.heap.size + 1, 0, none⟩) zx).trans c0, (q2.cell (p := ⟨w.heap.size + 1, 1, none⟩) zx).trans c1, (q2.cell (p := ⟨w.heap.size + 1, 2, none⟩) zx).trans c2, (q2.cell (p := ⟨w.heap.size + 1, 3, none⟩) zx).trans c3, (q2.cell (p := ⟨w.heap.size + 1, 4, none⟩) zx).trans c4⟩) | (exact ⟨(q1.cell (p := ⟨w.heap.size, 0, none⟩) zg).trans g0, (q1.cell (p := ⟨w.heap.size, 1, none⟩) zg).trans g1, (q1.cell (p := ⟨w.heap.size + 1, 0, none⟩) zx).trans c0, (q1.cell (p := ⟨w.heap.size + 1, 1, none⟩) zx).trans c1, (q1.cell (p := ⟨w.heap.size + 1, 2, none⟩) zx).trans c2, (q1.cell (p := ⟨w.heap.size + 1, 3, none⟩) zx).trans c3, (q1.cell (p := ⟨w.heap.size + 1, 4, none⟩) zx).trans c4⟩) | (exact ⟨g0, g1, c0, c1, c2, c3, c4⟩) | go_keep)
    (first | (have gq := q1; clear gq; go_at_call 52; refine (implStripeOf_any _ gn gs b).mono ?_; rintro e v2 ⟨rfl, p2⟩; have q2 : Below w1.heap.size w1 v2 := Below.andThen q1 p2) | (have gq := q0; clear gq; go_at_call 52; refine (implStripeOf_any _ gn gs (b + lenC o k zs - 1)).mono ?_; rintro e v1 ⟨rfl, p1⟩; have q1 : Below w1.heap.size w1 v1 := Below.andThen q0 p1))
  have HB := hidden (Below.andThen B1 q2)
  go_wp2
  go_ret
  exact ⟨rfl, HB.out⟩

set_option maxRecDepth 20000 in
set_option maxHeartbeats 3200000 in
theorem partsOf_any (w : World) (gn gs : Int) (o d b k : Int) (a : Option Addr) (n cap : Nat) (zs : List Int) (hz : zs.length = n) (hr : Reads .i64 w a zs) (hn : n ≤ 2097152) (hc : codeC gn gs o d b k zs = 0) :
    Calls Try.prog 35 #[.agg #[.int .i64 gn, .int .i64 gs], .agg #[.int .i64 o, .int .i64 d, .int .i64 b, .int .i64 k, .slice a n cap]] w fun e w' => e = .returned (.int .i64 (partsC gn gs o b k zs)) ∧ Below w.heap.size w w' := by
  obtain ⟨l0, l1, _, _, hb⟩ := good_small hc
  by_cases h3 : o = 3
  · subst h3
    obtain ⟨hb0, hb1⟩ := hb (by omega)
    have s1 := stripeN_small gn gs (b + lenC 3 k zs - 1)
    have s2 := stripeN_small gn gs b
    have hv1 : IntKind.i64.wrap (lenC 3 k zs + (stripeN gn gs (b + lenC 3 k zs - 1) - stripeN gn gs b + 1)) = lenC 3 k zs + (stripeN gn gs (b + lenC 3 k zs - 1) - stripeN gn gs b + 1) := IntWalk.i64_in _ (by omega)
    clear s1 s2 hb0 hb1 hb l0 l1
    have hA : Below w.heap.size w ((w.alloc (.cells #[.int .i64 gn, .int .i64 gs] 25)).alloc (.cells #[.int .i64 3, .int .i64 d, .int .i64 b, .int .i64 k, .slice a n cap] 28)) := (new_below w _).alloc (by simp) _
    have G : Box ((w.alloc (.cells #[.int .i64 gn, .int .i64 gs] 25)).alloc (.cells #[.int .i64 3, .int .i64 d, .int .i64 b, .int .i64 k, .slice a n cap] 28)) w.heap.size 25 #[.int .i64 gn, .int .i64 gs] := (Box.new w _ _).below (new_below _ _) (by simp)
    have X : Box ((w.alloc (.cells #[.int .i64 gn, .int .i64 gs] 25)).alloc (.cells #[.int .i64 3, .int .i64 d, .int .i64 b, .int .i64 k, .slice a n cap] 28)) (w.heap.size + 1) 28 #[.int .i64 3, .int .i64 d, .int .i64 b, .int .i64 k, .slice a n cap] := by
      have := Box.new (w.alloc (.cells #[.int .i64 gn, .int .i64 gs] 25)) 28 #[.int .i64 3, .int .i64 d, .int .i64 b, .int .i64 k, .slice a n cap]
      simpa using this
    have hr' := hr.below hA
    subst hz
    obtain ⟨g0, g1⟩ := G.cells2
    obtain ⟨c0, c1, c2, c3, c4⟩ := X.cells5
    go_enter Try.func35, Try.ntmps35
    go_wp2_with fail
    generalize (w.alloc (.cells #[.int .i64 gn, .int .i64 gs] 25)).alloc (.cells #[.int .i64 3, .int .i64 d, .int .i64 b, .int .i64 k, .slice a zs.length cap] 28) = W0 at hA G X hr' g0 g1 c0 c1 c2 c3 c4 ⊢
    have B0 := hA
    have G0 := G
    have X0 := X
    have R0 := hr'
    clear hA G X hr' hr
    have zg := G0.lt
    have zx := X0.lt
    go_wp2_with fail
    have q0 : Below W0.heap.size W0 W0.drew := (Below.refl _ _).drew
    go_region_held3 (fun w' => w'.cell? ⟨w.heap.size, 0, none⟩ = some (.int .i64 gn) ∧ w'.cell? ⟨w.heap.size, 1, none⟩ = some (.int .i64 gs) ∧ w'.cell? ⟨w.heap.size + 1, 0, none⟩ = some (.int .i64 3) ∧ w'.cell? ⟨w.heap.size + 1, 1, none⟩ = some (.int .i64 d) ∧ w'.cell? ⟨w.heap.size + 1, 2, none⟩ = some (.int .i64 b) ∧ w'.cell? ⟨w.heap.size + 1, 3, none⟩ = some (.int .i64 k) ∧ w'.cell? ⟨w.heap.size + 1, 4, none⟩ = some (.slice a zs.length cap))
      (first | (exact ⟨(q2.cell (p := ⟨w.heap.size, 0, none⟩) zg).trans g0, (q2.cell (p := ⟨w.heap.size, 1, none⟩) zg).trans g1, (q2.cell (p := ⟨w.heap.size + 1, 0, none⟩) zx).trans c0, (q2.cell (p := ⟨w.heap.size + 1, 1, none⟩) zx).trans c1, (q2.cell (p := ⟨w.heap.size + 1, 2, none⟩) zx).trans c2, (q2.cell (p := ⟨w.heap.size + 1, 3, none⟩) zx).trans c3, (q2.cell (p := ⟨w.heap.size + 1, 4, none⟩) zx).trans c4⟩) | (exact ⟨(q1.cell (p := ⟨w.heap.size, 0, none⟩) zg).trans g0, (q1.cell (p := ⟨w.heap.size, 1, none⟩) zg).trans g1, (q1.cell (p := ⟨w.heap.size + 1, 0, none⟩) zx).trans c0, (q1.cell (p := ⟨w.heap.size + 1, 1, none⟩) zx).trans c1, (q1.cell (p := ⟨w.heap.size + 1, 2, none⟩) zx).trans c2, (q1.cell (p := ⟨w.heap.size + 1, 3, none⟩) zx).trans c3, (q1.cell (p := ⟨w.heap.size + 1, 4, none⟩) zx).trans c4⟩) | (exact ⟨g0, g1, c0, c1, c2, c3, c4⟩) | go_keep)
      (first | (have gq := q1; clear gq; go_at_call 47; refine (stripesUnder_any _ gn gs 3 d b k _ _ _ zs rfl (by exact R0.below q1) hn hc (by decide)).mono ?_; rintro e v2 ⟨rfl, p2⟩; have q2 : Below W0.heap.size W0 v2 := Below.andThen q1 p2) | (have gq := q0; clear gq; go_at_call 25; refine (roomOf_any _ 3 d b k _ _ _ zs rfl (by exact R0.below q0) hn).mono ?_; rintro e v1 ⟨rfl, p1⟩; have q1 : Below W0.heap.size W0 v1 := Below.andThen q0 p1))
    have HB := hidden (Below.andThen B0 q2)
    go_wp2
    go_ret
    exact ⟨rfl, HB.out⟩
  by_cases h4 : o = 4
  · subst h4
    have hA : Below w.heap.size w ((w.alloc (.cells #[.int .i64 gn, .int .i64 gs] 25)).alloc (.cells #[.int .i64 4, .int .i64 d, .int .i64 b, .int .i64 k, .slice a n cap] 28)) := (new_below w _).alloc (by simp) _
    have G : Box ((w.alloc (.cells #[.int .i64 gn, .int .i64 gs] 25)).alloc (.cells #[.int .i64 4, .int .i64 d, .int .i64 b, .int .i64 k, .slice a n cap] 28)) w.heap.size 25 #[.int .i64 gn, .int .i64 gs] := (Box.new w _ _).below (new_below _ _) (by simp)
    have X : Box ((w.alloc (.cells #[.int .i64 gn, .int .i64 gs] 25)).alloc (.cells #[.int .i64 4, .int .i64 d, .int .i64 b, .int .i64 k, .slice a n cap] 28)) (w.heap.size + 1) 28 #[.int .i64 4, .int .i64 d, .int .i64 b, .int .i64 k, .slice a n cap] := by
      have := Box.new (w.alloc (.cells #[.int .i64 gn, .int .i64 gs] 25)) 28 #[.int .i64 4, .int .i64 d, .int .i64 b, .int .i64 k, .slice a n cap]
      simpa using this
    have hr' := hr.below hA
    subst hz
    obtain ⟨g0, g1⟩ := G.cells2
    obtain ⟨c0, c1, c2, c3, c4⟩ := X.cells5
    go_enter Try.func35, Try.ntmps35
    go_wp2_with fail
    generalize (w.alloc (.cells #[.int .i64 gn, .int .i64 gs] 25)).alloc (.cells #[.int .i64 4, .int .i64 d, .int .i64 b, .int .i64 k, .slice a zs.length cap] 28) = W0 at hA G X hr' g0 g1 c0 c1 c2 c3 c4 ⊢
    have B0 := hA
    have G0 := G
    have X0 := X
    have R0 := hr'
    clear hA G X hr' hr
    go_wp2
    go_ret
    exact ⟨rfl, B0⟩
  by_cases h5 : o = 5
  · subst h5
    have hA : Below w.heap.size w ((w.alloc (.cells #[.int .i64 gn, .int .i64 gs] 25)).alloc (.cells #[.int .i64 5, .int .i64 d, .int .i64 b, .int .i64 k, .slice a n cap] 28)) := (new_below w _).alloc (by simp) _
    have G : Box ((w.alloc (.cells #[.int .i64 gn, .int .i64 gs] 25)).alloc (.cells #[.int .i64 5, .int .i64 d, .int .i64 b, .int .i64 k, .slice a n cap] 28)) w.heap.size 25 #[.int .i64 gn, .int .i64 gs] := (Box.new w _ _).below (new_below _ _) (by simp)
    have X : Box ((w.alloc (.cells #[.int .i64 gn, .int .i64 gs] 25)).alloc (.cells #[.int .i64 5, .int .i64 d, .int .i64 b, .int .i64 k, .slice a n cap] 28)) (w.heap.size + 1) 28 #[.int .i64 5, .int .i64 d, .int .i64 b, .int .i64 k, .slice a n cap] := by
      have := Box.new (w.alloc (.cells #[.int .i64 gn, .int .i64 gs] 25)) 28 #[.int .i64 5, .int .i64 d, .int .i64 b, .int .i64 k, .slice a n cap]
      simpa using this
    have hr' := hr.below hA
    subst hz
    obtain ⟨g0, g1⟩ := G.cells2
    obtain ⟨c0, c1, c2, c3, c4⟩ := X.cells5
    go_enter Try.func35, Try.ntmps35
    go_wp2_with fail
    generalize (w.alloc (.cells #[.int .i64 gn, .int .i64 gs] 25)).alloc (.cells #[.int .i64 5, .int .i64 d, .int .i64 b, .int .i64 k, .slice a zs.length cap] 28) = W0 at hA G X hr' g0 g1 c0 c1 c2 c3 c4 ⊢
    have B0 := hA
    have G0 := G
    have X0 := X
    have R0 := hr'
    clear hA G X hr' hr
    go_wp2
    go_ret
    exact ⟨rfl, B0⟩
  have HV := hidden (parts_else (gn := gn) (gs := gs) (b := b) (k := k) (zs := zs) h3 h4 h5)
  clear hc hb
  have hA : Below w.heap.size w ((w.alloc (.cells #[.int .i64 gn, .int .i64 gs] 25)).alloc (.cells #[.int .i64 o, .int .i64 d, .int .i64 b, .int .i64 k, .slice a n cap] 28)) := (new_below w _).alloc (by simp) _
  have G : Box ((w.alloc (.cells #[.int .i64 gn, .int .i64 gs] 25)).alloc (.cells #[.int .i64 o, .int .i64 d, .int .i64 b, .int .i64 k, .slice a n cap] 28)) w.heap.size 25 #[.int .i64 gn, .int .i64 gs] := (Box.new w _ _).below (new_below _ _) (by simp)
  have X : Box ((w.alloc (.cells #[.int .i64 gn, .int .i64 gs] 25)).alloc (.cells #[.int .i64 o, .int .i64 d, .int .i64 b, .int .i64 k, .slice a n cap] 28)) (w.heap.size + 1) 28 #[.int .i64 o, .int .i64 d, .int .i64 b, .int .i64 k, .slice a n cap] := by
    have := Box.new (w.alloc (.cells #[.int .i64 gn, .int .i64 gs] 25)) 28 #[.int .i64 o, .int .i64 d, .int .i64 b, .int .i64 k, .slice a n cap]
    simpa using this
  have hr' := hr.below hA
  subst hz
  obtain ⟨g0, g1⟩ := G.cells2
  obtain ⟨c0, c1, c2, c3, c4⟩ := X.cells5
  go_enter Try.func35, Try.ntmps35
  go_wp2_with fail
  generalize (w.alloc (.cells #[.int .i64 gn, .int .i64 gs] 25)).alloc (.cells #[.int .i64 o, .int .i64 d, .int .i64 b, .int .i64 k, .slice a zs.length cap] 28) = W0 at hA G X hr' g0 g1 c0 c1 c2 c3 c4 ⊢
  have B0 := hA
  have G0 := G
  have X0 := X
  have R0 := hr'
  clear hA G X hr' hr
  go_wp2_with fail
  refine (roomOf_any _ o d b k _ _ _ zs rfl R0 hn).mono ?_
  rintro e w1 ⟨rfl, b1⟩
  have HB := hidden (Below.andThen B0 b1)
  go_wp2
  go_ret
  exact ⟨ret_int HV.out.symm, HB.out⟩

set_option maxRecDepth 20000 in
set_option maxHeartbeats 3200000 in
theorem implStepsOf_any (w : World) (gn gs : Int) (o d b k : Int) (a : Option Addr) (n cap : Nat) (zs : List Int) (hz : zs.length = n) (hr : Reads .i64 w a zs) (hn : n ≤ 2097152) :
    Calls Try.prog 15 #[.agg #[.int .i64 gn, .int .i64 gs], .agg #[.int .i64 o, .int .i64 d, .int .i64 b, .int .i64 k, .slice a n cap]] w fun e w' => e = .returned (.int .i64 (stepsC gn gs o d b k zs)) ∧ Below w.heap.size w w' := by
  have hA : Below w.heap.size w ((w.alloc (.cells #[.int .i64 gn, .int .i64 gs] 25)).alloc (.cells #[.int .i64 o, .int .i64 d, .int .i64 b, .int .i64 k, .slice a n cap] 28)) := (new_below w _).alloc (by simp) _
  have G : Box ((w.alloc (.cells #[.int .i64 gn, .int .i64 gs] 25)).alloc (.cells #[.int .i64 o, .int .i64 d, .int .i64 b, .int .i64 k, .slice a n cap] 28)) w.heap.size 25 #[.int .i64 gn, .int .i64 gs] := (Box.new w _ _).below (new_below _ _) (by simp)
  have X : Box ((w.alloc (.cells #[.int .i64 gn, .int .i64 gs] 25)).alloc (.cells #[.int .i64 o, .int .i64 d, .int .i64 b, .int .i64 k, .slice a n cap] 28)) (w.heap.size + 1) 28 #[.int .i64 o, .int .i64 d, .int .i64 b, .int .i64 k, .slice a n cap] := by
    have := Box.new (w.alloc (.cells #[.int .i64 gn, .int .i64 gs] 25)) 28 #[.int .i64 o, .int .i64 d, .int .i64 b, .int .i64 k, .slice a n cap]
    simpa using this
  have hr' := hr.below hA
  subst hz
  obtain ⟨g0, g1⟩ := G.cells2
  obtain ⟨c0, c1, c2, c3, c4⟩ := X.cells5
  go_enter Try.func15, Try.ntmps15
  go_wp2_with fail
  generalize (w.alloc (.cells #[.int .i64 gn, .int .i64 gs] 25)).alloc (.cells #[.int .i64 o, .int .i64 d, .int .i64 b, .int .i64 k, .slice a zs.length cap] 28) = W0 at hA G X hr' g0 g1 c0 c1 c2 c3 c4 ⊢
  have B0 := hA
  have G0 := G
  have X0 := X
  have R0 := hr'
  clear hA G X hr' hr
  refine (implCmdCode_any _ gn gs o d b k _ _ _ zs rfl R0 hn).mono ?_
  rintro e w1 ⟨rfl, b1⟩
  have B1 := Below.andThen B0 b1
  have G1 := G0.below b1 G0.lt
  have X1 := X0.below b1 X0.lt
  have R1 := R0.below b1
  clear g0 g1 c0 c1 c2 c3 c4
  obtain ⟨g0, g1⟩ := G1.cells2
  obtain ⟨c0, c1, c2, c3, c4⟩ := X1.cells5
  clear B0 G0 X0 R0 b1
  by_cases hc : codeC gn gs o d b k zs = 0
  · have hcb : (codeC gn gs o d b k zs == 0) = true := by simpa using hc
    have hs := parts_small hc
    have hv : IntKind.i64.wrap (partsC gn gs o b k zs + 1) = partsC gn gs o b k zs + 1 := IntWalk.i64_in _ (by omega)
    have HS := hidden (steps_good hc)
    go_wp2_with fail
    refine (partsOf_any _ gn gs o d b k _ _ _ zs rfl R1 hn hc).mono ?_
    rintro e w2 ⟨rfl, b2⟩
    have HB := hidden (Below.andThen B1 b2)
    go_wp2
    go_ret
    exact ⟨ret_int HS.out.symm, HB.out⟩
  · have HS := hidden (steps_bad hc)
    go_wp2
    go_ret
    exact ⟨ret_int HS.out.symm, B1⟩

end Go.Proofs.Ytbkkjfgjlapadaa
