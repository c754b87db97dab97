/-
  The walk of the law of falls: whatever bytes it draws from, it answers true, and nothing that was there has turned. No condition.
-/
import Derived.Test.YtmkiljflkndmoaaSecAt
import Derived.Test.YtmkiljflkndmoaaWalkFlush
import Derived.Test.YtmkiljflkndmoaaWalkAt
import Derived.Test.YtmkiljflkndmoaaWalkBig
namespace Go.Proofs.Ytmkiljflkndmoaa
open Go.RowKit

/-- What several ways come to is shown once. -/
theorem with_keyM {G : Int → Int → Nat → World → Option Addr → Nat → Nat → Option Addr → Nat → Nat → Option Addr → Nat → Nat → Prop} {A : Int → Int → Nat → World → Option Addr → Nat → Nat → Option Addr → Nat → Nat → Option Addr → Nat → Nat → Prop} {C : Prop}
    (main : ∀ p q BO u d0 k0 e0 d1 k1 e1 d3 k3 e3, A p q BO u d0 k0 e0 d1 k1 e1 d3 k3 e3 → G p q BO u d0 k0 e0 d1 k1 e1 d3 k3 e3)
    (use : Hid (∀ p q BO u d0 k0 e0 d1 k1 e1 d3 k3 e3, A p q BO u d0 k0 e0 d1 k1 e1 d3 k3 e3 → G p q BO u d0 k0 e0 d1 k1 e1 d3 k3 e3) → C) : C := use main

set_option maxRecDepth 8000 in
set_option maxHeartbeats 8000000 in
theorem fnFalls_walk (a0 : Option Addr) (len0 cap0 : Nat) (z0 : List Int) (w : World) (w0 : IsRow .u8 w a0 len0 cap0 z0) :
    Calls Try.prog 6 #[.slice a0 len0 cap0] w fun e w' => e = .returned (.bool true) ∧ Below w.heap.size w w' := by
  obtain ⟨hr, hl, hwf, hml⟩ := w0.reads
  generalize z0.take len0 = zs at hr hl hwf
  unfold maxLen at hml
  have hby := bytes_of_wf hwf
  clear w0 hwf
  by_cases hbig : len0 ≤ 1048576
  rotate_left
  · go_enter Try.func6, Try.ntmps6
    go_wp2_with fail
    refine (big_any _ _ _ _).mono ?_
    rintro e wb ⟨rfl, rfl⟩
    go_wp2
    go_ret
    exact ⟨rfl, Below.refl _ _⟩
  have hlb : len0 ≤ 2097152 := by omega
  go_enter Try.func6, Try.ntmps6
  go_wp2_with fail
  refine (big_any _ _ _ _).mono ?_
  rintro e wb ⟨rfl, rfl⟩
  go_wp2_with fail
  refine (drawMem_any _ _ _ _ zs hl hr hby hlb).mono ?_
  rintro e w1 ⟨v0, v1, v3, ss, cs, bs, rfl, o1, hM, hc7, hb7, hs3, hs7, hb1⟩
  obtain ⟨m0, l0, c0, m1, l1, c1, m3, l3, c3, hv0, hv1, hv3⟩ := mem_slices o1
  subst hv0 hv1 hv3
  have ba : Below w1.heap.size w1 (w1.alloc (.cells #[.slice m0 l0 c0, .slice m1 l1 c1, .bool false, .slice m3 l3 c3] 44)) := (Below.refl _ _).alloc (Nat.le_refl _) _
  have xb := Box.new w1 44 #[.slice m0 l0 c0, .slice m1 l1 c1, .bool false, .slice m3 l3 c3]
  have zx := xb.lt
  have B2 := hidden (Below.andThen hb1 ba)
  have M2 := hidden (o1.below ba)
  have X2 := hidden xb
  have zw1 := hb1.size
  clear o1 hb1 ba xb
  have HWT := hidden (memB_wt (f := false) hM hb7 hc7)
  have HM := hidden hM
  obtain ⟨q0, q1, q2, q3⟩ := X2.out.cells4
  go_wp2_with fail
  generalize w1.alloc (.cells #[.slice m0 l0 c0, .slice m1 l1 c1, .bool false, .slice m3 l3 c3] 44) = w2 at B2 M2 X2 zx q0 q1 q2 q3 ⊢
  generalize hBM : w1.heap.size = BM at M2 X2 zx q0 q1 q2 q3 ⊢
  have hBMw : w.heap.size ≤ BM := by omega
  clear hBM zw1 hM
  have R2 := hr.below B2.out
  have hSc : ∀ w', Box w' BM 44 #[.slice m0 l0 c0, .slice m1 l1 c1, .bool false, .slice m3 l3 c3] → w'.cell? ⟨BM, 0, none⟩ = some (.slice m0 l0 c0) ∧ w'.cell? ⟨BM, 1, none⟩ = some (.slice m1 l1 c1) ∧ w'.cell? ⟨BM, 2, none⟩ = some (.bool false) ∧ w'.cell? ⟨BM, 3, none⟩ = some (.slice m3 l3 c3) := fun w' e => e.cells4
  have EA : Hid (Below w2.heap.size w2 w2.drew) := (Below.refl _ _).drew
  have EB : Hid (Below w2.heap.size w2 (w2.alloc (.cells #[.slice none 0 0, .slice none 0 0, .bool false, .slice none 0 0] 44)).drew) := ((Below.refl _ _).alloc (Nat.le_refl _) _).drew
  have RA := hidden (R2.below EA.out)
  have RB := hidden (R2.below EB.out)
  have XA : Hid (Box w2.drew BM 44 #[.slice m0 l0 c0, .slice m1 l1 c1, .bool false, .slice m3 l3 c3]) := X2.out
  have XB : Hid (Box (w2.alloc (.cells #[.slice none 0 0, .slice none 0 0, .bool false, .slice none 0 0] 44)).drew BM 44 #[.slice m0 l0 c0, .slice m1 l1 c1, .bool false, .slice m3 l3 c3]) := X2.out.alloc _
  have OB : Hid (Box (w2.alloc (.cells #[.slice none 0 0, .slice none 0 0, .bool false, .slice none 0 0] 44)).drew w2.heap.size 44 #[.slice none 0 0, .slice none 0 0, .bool false, .slice none 0 0]) := Box.new w2 44 _
  obtain ⟨N2, hN2⟩ : ∃ n : Nat, n = w2.heap.size := ⟨_, rfl⟩
  have HN2 := hidden hN2
  clear hN2
  refine' with_keyM (G := _) (A := fun p q BO u d0 k0 e0 d1 k1 e1 d3 k3 e3 => Box u BM 44 #[.slice m0 l0 c0, .slice m1 l1 c1, .bool false, .slice m3 l3 c3] ∧ Box u BO 44 #[.slice d0 k0 e0, .slice d1 k1 e1, .bool false, .slice d3 k3 e3] ∧ (tMem 57).Own u N2 u.heap.size [.slice d0 k0 e0, .slice d1 k1 e1, .bool false, .slice d3 k3 e3] (faSS ss cs bs (p * 256 + q), faCS ss cs bs, false, bs) ∧ Below N2 w2 u ∧ N2 ≤ BO) ?main (fun key => ?use)
  case use =>
    go_region_held3 (fun w' => w'.cell? ⟨BM, 0, none⟩ = some (.slice m0 l0 c0) ∧ w'.cell? ⟨BM, 1, none⟩ = some (.slice m1 l1 c1) ∧ w'.cell? ⟨BM, 2, none⟩ = some (.bool false) ∧ w'.cell? ⟨BM, 3, none⟩ = some (.slice m3 l3 c3))
      (first | (with_reducible exact hSc _ ((((X6.out.other hne.out 0 _).other hne.out 1 _).other hne.out 2 _).other hne.out 3 _)) | (with_reducible exact hSc _ (X6.out.alloc _)) | (with_reducible exact hSc _ X6.out) | (with_reducible exact hSc _ X2a.out) | (with_reducible exact hSc _ X2_.out) | (with_reducible exact hSc _ X1a.out) | (with_reducible exact hSc _ X1_.out) | (with_reducible exact hSc _ XB.out) | (with_reducible exact hSc _ XA.out) | go_keep)
      (first
        | (have hg2 := R2_; go_at_call 33; refine (implFallMem_any _ 57 m0 m1 m3 l0 c0 l1 c1 l3 c3 ss cs false bs _ (by with_reducible exact FE2a0.out) (by with_reducible exact FE2a1.out) (by with_reducible exact FE2a3.out) HWT.out).mono ?_; rintro e w6 ⟨x0, x1, x3, rfl, o6, b6⟩; obtain ⟨d0, k0, e0, d1, k1, e1, d3, k3, e3, hx0, hx1, hx3⟩ := mem_slices o6; subst hx0 hx1 hx3; have E6 := hidden (E2a.out.trans (b6.mono E2a.out.size)); have X6 := hidden (X2.out.below E6.out zx); have b6s := b6.size; have hlo := hidden O2a.out.lt; have hne : Hid (BM ≠ u2.heap.size) := (by have := E2.out.size; unfold Hid; omega); have XO := hidden (O2a.out.below b6 O2a.out.lt); obtain ⟨o0, o1, o2, o3⟩ := XO.out.cells4; have of0 := XO.out.frozen 0; have of1 := XO.out.frozen 1; have of2 := XO.out.frozen 2; have of3 := XO.out.frozen 3; have O6 := hidden o6; clear o6 b6)
        | (have hg2 := R2_; go_at_call 33; refine (implFallMem_any _ 57 m0 m1 m3 l0 c0 l1 c1 l3 c3 ss cs false bs _ (by with_reducible exact FE20.out) (by with_reducible exact FE21.out) (by with_reducible exact FE23.out) HWT.out).mono ?_; rintro e w6 ⟨x0, x1, x3, rfl, o6, b6⟩; obtain ⟨d0, k0, e0, d1, k1, e1, d3, k3, e3, hx0, hx1, hx3⟩ := mem_slices o6; subst hx0 hx1 hx3; have E6 := hidden (E2.out.trans (b6.mono E2.out.size)); have X6 := hidden (X2.out.below E6.out zx); have b6s := b6.size; (try (have hlo := hidden XO.out.lt; have XO := hidden (XO.out.below b6 XO.out.lt); obtain ⟨o0, o1, o2, o3⟩ := XO.out.cells4; have of0 := XO.out.frozen 0; have of1 := XO.out.frozen 1; have of2 := XO.out.frozen 2; have of3 := XO.out.frozen 3)); have O6 := hidden o6; clear o6 b6)
        | (have hg1 := R1_; go_at_call 19; refine (at_any _ _ _ _ zs 3 hl (by with_reducible exact R1a.out) hby hlb (by omega)).mono ?_; rintro e u2 ⟨q, rfl, hq0, hq1, hs⟩; have gw2 : IntKind.i64.wrap (p * 256 + q) = p * 256 + q := IntWalk.i64_in _ (by omega); have E2 := hidden (E1a.out.trans (hs.below _)); have hne : Hid (BM ≠ u1.heap.size) := (by have := E1.out.size; unfold Hid; omega); have XO := hidden (O1a.out.same hs); have X2_ := hidden (X2.out.below E2.out zx); have X2a := hidden (X2_.out.alloc (.cells #[.slice none 0 0, .slice none 0 0, .bool false, .slice none 0 0] 44)); have R2_ := hidden (R2.below E2.out); have E2a : Hid (Below w2.heap.size w2 (u2.alloc (.cells #[.slice none 0 0, .slice none 0 0, .bool false, .slice none 0 0] 44))) := E2.out.alloc E2.out.size _; have R2a := hidden (R2.below E2a.out); have O2a := hidden (Box.new u2 44 #[.slice none 0 0, .slice none 0 0, .bool false, .slice none 0 0]); clear hs; obtain ⟨g0, g1, g3⟩ := mem_parts (M2.out.below E2.out); have FE20 := hidden g0; have FE21 := hidden g1; have FE23 := hidden g3; obtain ⟨g0, g1, g3⟩ := mem_parts (M2.out.below E2a.out); have FE2a0 := hidden g0; have FE2a1 := hidden g1; have FE2a3 := hidden g3; clear g0 g1 g3)
        | (have hg1 := R1_; go_at_call 19; refine (at_any _ _ _ _ zs 3 hl (by with_reducible exact R1_.out) hby hlb (by omega)).mono ?_; rintro e u2 ⟨q, rfl, hq0, hq1, hs⟩; have gw2 : IntKind.i64.wrap (p * 256 + q) = p * 256 + q := IntWalk.i64_in _ (by omega); have E2 := hidden (E1.out.trans (hs.below _)); (try (have XO := hidden (XO.out.same hs))); have X2_ := hidden (X2.out.below E2.out zx); have X2a := hidden (X2_.out.alloc (.cells #[.slice none 0 0, .slice none 0 0, .bool false, .slice none 0 0] 44)); have R2_ := hidden (R2.below E2.out); have E2a : Hid (Below w2.heap.size w2 (u2.alloc (.cells #[.slice none 0 0, .slice none 0 0, .bool false, .slice none 0 0] 44))) := E2.out.alloc E2.out.size _; have R2a := hidden (R2.below E2a.out); have O2a := hidden (Box.new u2 44 #[.slice none 0 0, .slice none 0 0, .bool false, .slice none 0 0]); clear hs; obtain ⟨g0, g1, g3⟩ := mem_parts (M2.out.below E2.out); have FE20 := hidden g0; have FE21 := hidden g1; have FE23 := hidden g3; obtain ⟨g0, g1, g3⟩ := mem_parts (M2.out.below E2a.out); have FE2a0 := hidden g0; have FE2a1 := hidden g1; have FE2a3 := hidden g3; clear g0 g1 g3)
        | (go_at_call 19; refine (at_any _ _ _ _ zs 2 hl (by with_reducible exact RB.out) hby hlb (by omega)).mono ?_; rintro e u1 ⟨p, rfl, hp0, hp1, hs⟩; have gw1 : IntKind.i64.wrap (p * 256) = p * 256 := IntWalk.i64_in _ (by omega); have E1 := hidden (EB.out.trans (hs.below _)); have hne : Hid (BM ≠ w2.heap.size) := (by unfold Hid; omega); have XO := hidden (OB.out.same hs); have X1_ := hidden (X2.out.below E1.out zx); have X1a := hidden (X1_.out.alloc (.cells #[.slice none 0 0, .slice none 0 0, .bool false, .slice none 0 0] 44)); have R1_ := hidden (R2.below E1.out); have E1a : Hid (Below w2.heap.size w2 (u1.alloc (.cells #[.slice none 0 0, .slice none 0 0, .bool false, .slice none 0 0] 44))) := E1.out.alloc E1.out.size _; have R1a := hidden (R2.below E1a.out); have O1a := hidden (Box.new u1 44 #[.slice none 0 0, .slice none 0 0, .bool false, .slice none 0 0]); clear hs)
        | (go_at_call 19; refine (at_any _ _ _ _ zs 2 hl (by with_reducible exact RA.out) hby hlb (by omega)).mono ?_; rintro e u1 ⟨p, rfl, hp0, hp1, hs⟩; have gw1 : IntKind.i64.wrap (p * 256) = p * 256 := IntWalk.i64_in _ (by omega); have E1 := hidden (EA.out.trans (hs.below _)); skip; have X1_ := hidden (X2.out.below E1.out zx); have X1a := hidden (X1_.out.alloc (.cells #[.slice none 0 0, .slice none 0 0, .bool false, .slice none 0 0] 44)); have R1_ := hidden (R2.below E1.out); have E1a : Hid (Below w2.heap.size w2 (u1.alloc (.cells #[.slice none 0 0, .slice none 0 0, .bool false, .slice none 0 0] 44))) := E1.out.alloc E1.out.size _; have R1a := hidden (R2.below E1a.out); have O1a := hidden (Box.new u1 44 #[.slice none 0 0, .slice none 0 0, .bool false, .slice none 0 0]); clear hs))
    all_goals first
      | (have hs9 := E6.out.size
         have FM : Box (w6.alloc (.cells #[.slice d0 k0 e0, .slice d1 k1 e1, .bool false, .slice d3 k3 e3] 44)) BM 44 #[.slice m0 l0 c0, .slice m1 l1 c1, .bool false, .slice m3 l3 c3] := X6.out.alloc _
         have FO : Box (w6.alloc (.cells #[.slice d0 k0 e0, .slice d1 k1 e1, .bool false, .slice d3 k3 e3] 44)) w6.heap.size 44 #[.slice d0 k0 e0, .slice d1 k1 e1, .bool false, .slice d3 k3 e3] := Box.new w6 44 _
         have FX : (tMem 57).Own (w6.alloc (.cells #[.slice d0 k0 e0, .slice d1 k1 e1, .bool false, .slice d3 k3 e3] 44)) N2 (w6.alloc (.cells #[.slice d0 k0 e0, .slice d1 k1 e1, .bool false, .slice d3 k3 e3] 44)).heap.size [.slice d0 k0 e0, .slice d1 k1 e1, .bool false, .slice d3 k3 e3] (faSS ss cs bs (p * 256 + q), faCS ss cs bs, false, bs) := (O6.out.below ((Below.refl _ _).alloc (Nat.le_refl _) _)).widen (by rw [HN2.out]; exact E2.out.size) (by simp)
         have FB : Below N2 w2 (w6.alloc (.cells #[.slice d0 k0 e0, .slice d1 k1 e1, .bool false, .slice d3 k3 e3] 44)) := by
           rw [HN2.out]
           exact E6.out.alloc hs9 _
         have FS : N2 ≤ w6.heap.size := by rw [HN2.out]; exact hs9
         have ALL := hidden (And.intro FM (And.intro FO (And.intro FX (And.intro FB FS))))
         clear FM FO FX FB FS hs9
         generalize (w6.alloc (.cells #[.slice d0 k0 e0, .slice d1 k1 e1, .bool false, .slice d3 k3 e3] 44)) = w7 at ALL ⊢
         generalize w6.heap.size = BO9 at ALL ⊢
         exact key.out p q BO9 w7 d0 k0 e0 d1 k1 e1 d3 k3 e3 ALL.out)
      | (have hbt : But w2.heap.size (w2.heap.size + 1) w6 ((((w6.setCell ⟨w2.heap.size, 0, none⟩ (.slice d0 k0 e0)).setCell ⟨w2.heap.size, 1, none⟩ (.slice d1 k1 e1)).setCell ⟨w2.heap.size, 2, none⟩ (.bool false)).setCell ⟨w2.heap.size, 3, none⟩ (.slice d3 k3 e3)) := (((But.setCell (by omega) (by omega) _).trans (But.setCell (by omega) (by omega) _)).trans (But.setCell (by omega) (by omega) _)).trans (But.setCell (by omega) (by omega) _)
         have hl9 := hlo.out
         have hn9 := hne.out
         have hs9 := Nat.le_refl w2.heap.size
         have hz9 := hbt.size
         have FM : Box ((((w6.setCell ⟨w2.heap.size, 0, none⟩ (.slice d0 k0 e0)).setCell ⟨w2.heap.size, 1, none⟩ (.slice d1 k1 e1)).setCell ⟨w2.heap.size, 2, none⟩ (.bool false)).setCell ⟨w2.heap.size, 3, none⟩ (.slice d3 k3 e3)) BM 44 #[.slice m0 l0 c0, .slice m1 l1 c1, .bool false, .slice m3 l3 c3] := X6.out.kept (hbt.block _ X6.out.lt (by omega))
         have FO : Box ((((w6.setCell ⟨w2.heap.size, 0, none⟩ (.slice d0 k0 e0)).setCell ⟨w2.heap.size, 1, none⟩ (.slice d1 k1 e1)).setCell ⟨w2.heap.size, 2, none⟩ (.bool false)).setCell ⟨w2.heap.size, 3, none⟩ (.slice d3 k3 e3)) w2.heap.size 44 #[.slice d0 k0 e0, .slice d1 k1 e1, .bool false, .slice d3 k3 e3] := (((XO.out.set 0 (.slice d0 k0 e0)).set 1 (.slice d1 k1 e1)).set 2 (.bool false)).set 3 (.slice d3 k3 e3)
         have FX : (tMem 57).Own ((((w6.setCell ⟨w2.heap.size, 0, none⟩ (.slice d0 k0 e0)).setCell ⟨w2.heap.size, 1, none⟩ (.slice d1 k1 e1)).setCell ⟨w2.heap.size, 2, none⟩ (.bool false)).setCell ⟨w2.heap.size, 3, none⟩ (.slice d3 k3 e3)) N2 ((((w6.setCell ⟨w2.heap.size, 0, none⟩ (.slice d0 k0 e0)).setCell ⟨w2.heap.size, 1, none⟩ (.slice d1 k1 e1)).setCell ⟨w2.heap.size, 2, none⟩ (.bool false)).setCell ⟨w2.heap.size, 3, none⟩ (.slice d3 k3 e3)).heap.size [.slice d0 k0 e0, .slice d1 k1 e1, .bool false, .slice d3 k3 e3] (faSS ss cs bs (p * 256 + q), faCS ss cs bs, false, bs) := (O6.out.but hbt (.inr hl9)).widen (by rw [HN2.out]; omega) hz9
         have FB : Below N2 w2 ((((w6.setCell ⟨w2.heap.size, 0, none⟩ (.slice d0 k0 e0)).setCell ⟨w2.heap.size, 1, none⟩ (.slice d1 k1 e1)).setCell ⟨w2.heap.size, 2, none⟩ (.bool false)).setCell ⟨w2.heap.size, 3, none⟩ (.slice d3 k3 e3)) := by
           rw [HN2.out]
           exact Below.andBut E6.out hbt hs9
         have FS : N2 ≤ w2.heap.size := by rw [HN2.out]; exact hs9
         have ALL := hidden (And.intro FM (And.intro FO (And.intro FX (And.intro FB FS))))
         clear FM FO FX FB FS hbt hl9 hn9 hs9 hz9
         generalize ((((w6.setCell ⟨w2.heap.size, 0, none⟩ (.slice d0 k0 e0)).setCell ⟨w2.heap.size, 1, none⟩ (.slice d1 k1 e1)).setCell ⟨w2.heap.size, 2, none⟩ (.bool false)).setCell ⟨w2.heap.size, 3, none⟩ (.slice d3 k3 e3)) = w7 at ALL ⊢
         generalize w2.heap.size = BO9 at ALL ⊢
         exact key.out p q BO9 w7 d0 k0 e0 d1 k1 e1 d3 k3 e3 ALL.out)
      | (have hbt : But u1.heap.size (u1.heap.size + 1) w6 ((((w6.setCell ⟨u1.heap.size, 0, none⟩ (.slice d0 k0 e0)).setCell ⟨u1.heap.size, 1, none⟩ (.slice d1 k1 e1)).setCell ⟨u1.heap.size, 2, none⟩ (.bool false)).setCell ⟨u1.heap.size, 3, none⟩ (.slice d3 k3 e3)) := (((But.setCell (by omega) (by omega) _).trans (But.setCell (by omega) (by omega) _)).trans (But.setCell (by omega) (by omega) _)).trans (But.setCell (by omega) (by omega) _)
         have hl9 := hlo.out
         have hn9 := hne.out
         have hs9 := E1.out.size
         have hz9 := hbt.size
         have FM : Box ((((w6.setCell ⟨u1.heap.size, 0, none⟩ (.slice d0 k0 e0)).setCell ⟨u1.heap.size, 1, none⟩ (.slice d1 k1 e1)).setCell ⟨u1.heap.size, 2, none⟩ (.bool false)).setCell ⟨u1.heap.size, 3, none⟩ (.slice d3 k3 e3)) BM 44 #[.slice m0 l0 c0, .slice m1 l1 c1, .bool false, .slice m3 l3 c3] := X6.out.kept (hbt.block _ X6.out.lt (by omega))
         have FO : Box ((((w6.setCell ⟨u1.heap.size, 0, none⟩ (.slice d0 k0 e0)).setCell ⟨u1.heap.size, 1, none⟩ (.slice d1 k1 e1)).setCell ⟨u1.heap.size, 2, none⟩ (.bool false)).setCell ⟨u1.heap.size, 3, none⟩ (.slice d3 k3 e3)) u1.heap.size 44 #[.slice d0 k0 e0, .slice d1 k1 e1, .bool false, .slice d3 k3 e3] := (((XO.out.set 0 (.slice d0 k0 e0)).set 1 (.slice d1 k1 e1)).set 2 (.bool false)).set 3 (.slice d3 k3 e3)
         have FX : (tMem 57).Own ((((w6.setCell ⟨u1.heap.size, 0, none⟩ (.slice d0 k0 e0)).setCell ⟨u1.heap.size, 1, none⟩ (.slice d1 k1 e1)).setCell ⟨u1.heap.size, 2, none⟩ (.bool false)).setCell ⟨u1.heap.size, 3, none⟩ (.slice d3 k3 e3)) N2 ((((w6.setCell ⟨u1.heap.size, 0, none⟩ (.slice d0 k0 e0)).setCell ⟨u1.heap.size, 1, none⟩ (.slice d1 k1 e1)).setCell ⟨u1.heap.size, 2, none⟩ (.bool false)).setCell ⟨u1.heap.size, 3, none⟩ (.slice d3 k3 e3)).heap.size [.slice d0 k0 e0, .slice d1 k1 e1, .bool false, .slice d3 k3 e3] (faSS ss cs bs (p * 256 + q), faCS ss cs bs, false, bs) := (O6.out.but hbt (.inr hl9)).widen (by rw [HN2.out]; omega) hz9
         have FB : Below N2 w2 ((((w6.setCell ⟨u1.heap.size, 0, none⟩ (.slice d0 k0 e0)).setCell ⟨u1.heap.size, 1, none⟩ (.slice d1 k1 e1)).setCell ⟨u1.heap.size, 2, none⟩ (.bool false)).setCell ⟨u1.heap.size, 3, none⟩ (.slice d3 k3 e3)) := by
           rw [HN2.out]
           exact Below.andBut E6.out hbt hs9
         have FS : N2 ≤ u1.heap.size := by rw [HN2.out]; exact hs9
         have ALL := hidden (And.intro FM (And.intro FO (And.intro FX (And.intro FB FS))))
         clear FM FO FX FB FS hbt hl9 hn9 hs9 hz9
         generalize ((((w6.setCell ⟨u1.heap.size, 0, none⟩ (.slice d0 k0 e0)).setCell ⟨u1.heap.size, 1, none⟩ (.slice d1 k1 e1)).setCell ⟨u1.heap.size, 2, none⟩ (.bool false)).setCell ⟨u1.heap.size, 3, none⟩ (.slice d3 k3 e3)) = w7 at ALL ⊢
         generalize u1.heap.size = BO9 at ALL ⊢
         exact key.out p q BO9 w7 d0 k0 e0 d1 k1 e1 d3 k3 e3 ALL.out)
      | (have hbt : But u2.heap.size (u2.heap.size + 1) w6 ((((w6.setCell ⟨u2.heap.size, 0, none⟩ (.slice d0 k0 e0)).setCell ⟨u2.heap.size, 1, none⟩ (.slice d1 k1 e1)).setCell ⟨u2.heap.size, 2, none⟩ (.bool false)).setCell ⟨u2.heap.size, 3, none⟩ (.slice d3 k3 e3)) := (((But.setCell (by omega) (by omega) _).trans (But.setCell (by omega) (by omega) _)).trans (But.setCell (by omega) (by omega) _)).trans (But.setCell (by omega) (by omega) _)
         have hl9 := hlo.out
         have hn9 := hne.out
         have hs9 := E2.out.size
         have hz9 := hbt.size
         have FM : Box ((((w6.setCell ⟨u2.heap.size, 0, none⟩ (.slice d0 k0 e0)).setCell ⟨u2.heap.size, 1, none⟩ (.slice d1 k1 e1)).setCell ⟨u2.heap.size, 2, none⟩ (.bool false)).setCell ⟨u2.heap.size, 3, none⟩ (.slice d3 k3 e3)) BM 44 #[.slice m0 l0 c0, .slice m1 l1 c1, .bool false, .slice m3 l3 c3] := X6.out.kept (hbt.block _ X6.out.lt (by omega))
         have FO : Box ((((w6.setCell ⟨u2.heap.size, 0, none⟩ (.slice d0 k0 e0)).setCell ⟨u2.heap.size, 1, none⟩ (.slice d1 k1 e1)).setCell ⟨u2.heap.size, 2, none⟩ (.bool false)).setCell ⟨u2.heap.size, 3, none⟩ (.slice d3 k3 e3)) u2.heap.size 44 #[.slice d0 k0 e0, .slice d1 k1 e1, .bool false, .slice d3 k3 e3] := (((XO.out.set 0 (.slice d0 k0 e0)).set 1 (.slice d1 k1 e1)).set 2 (.bool false)).set 3 (.slice d3 k3 e3)
         have FX : (tMem 57).Own ((((w6.setCell ⟨u2.heap.size, 0, none⟩ (.slice d0 k0 e0)).setCell ⟨u2.heap.size, 1, none⟩ (.slice d1 k1 e1)).setCell ⟨u2.heap.size, 2, none⟩ (.bool false)).setCell ⟨u2.heap.size, 3, none⟩ (.slice d3 k3 e3)) N2 ((((w6.setCell ⟨u2.heap.size, 0, none⟩ (.slice d0 k0 e0)).setCell ⟨u2.heap.size, 1, none⟩ (.slice d1 k1 e1)).setCell ⟨u2.heap.size, 2, none⟩ (.bool false)).setCell ⟨u2.heap.size, 3, none⟩ (.slice d3 k3 e3)).heap.size [.slice d0 k0 e0, .slice d1 k1 e1, .bool false, .slice d3 k3 e3] (faSS ss cs bs (p * 256 + q), faCS ss cs bs, false, bs) := (O6.out.but hbt (.inr hl9)).widen (by rw [HN2.out]; omega) hz9
         have FB : Below N2 w2 ((((w6.setCell ⟨u2.heap.size, 0, none⟩ (.slice d0 k0 e0)).setCell ⟨u2.heap.size, 1, none⟩ (.slice d1 k1 e1)).setCell ⟨u2.heap.size, 2, none⟩ (.bool false)).setCell ⟨u2.heap.size, 3, none⟩ (.slice d3 k3 e3)) := by
           rw [HN2.out]
           exact Below.andBut E6.out hbt hs9
         have FS : N2 ≤ u2.heap.size := by rw [HN2.out]; exact hs9
         have ALL := hidden (And.intro FM (And.intro FO (And.intro FX (And.intro FB FS))))
         clear FM FO FX FB FS hbt hl9 hn9 hs9 hz9
         generalize ((((w6.setCell ⟨u2.heap.size, 0, none⟩ (.slice d0 k0 e0)).setCell ⟨u2.heap.size, 1, none⟩ (.slice d1 k1 e1)).setCell ⟨u2.heap.size, 2, none⟩ (.bool false)).setCell ⟨u2.heap.size, 3, none⟩ (.slice d3 k3 e3)) = w7 at ALL ⊢
         generalize u2.heap.size = BO9 at ALL ⊢
         exact key.out p q BO9 w7 d0 k0 e0 d1 k1 e1 d3 k3 e3 ALL.out)
  case main =>
    rintro p q BO u d0 k0 e0 d1 k1 e1 d3 k3 e3 ⟨FM, FO, FX, FB, hBO⟩
    have FB2 : Below w2.heap.size w2 u := by have := FB; rw [HN2.out] at this; exact this
    have BW := hidden (Below.andThen B2.out FB2)
    obtain ⟨g0, g1, g3⟩ := mem_parts (M2.out.below FB2)
    obtain ⟨x0, x1, x3⟩ := mem_parts FX
    have RM0 := hidden g0
    have RM1 := hidden g1
    have RM3 := hidden g3
    have RX0 := hidden x0
    have RX1 := hidden x1
    have RX3 := hidden x3
    have XM := hidden FM
    have XX := hidden FO
    have hNO : BM ≠ BO := by have := HN2.out; omega
    have HSX := hidden (fun (i : Nat) (hi : i < ss.length) => fall_may (k := p * 256 + q) HM.out hi)
    have HLX : Hid ((faSS ss cs bs (p * 256 + q)).length = ss.length) := by unfold Hid faSS; rw [if_pos HM.out, flushD_length]
    have HLF : Hid ((flSS ss cs false bs).length = ss.length) := by unfold Hid flSS; rw [HM.out]; exact flushD_length _ _
    have HOX : Hid (memB (faSS ss cs bs (p * 256 + q)) (faCS ss cs bs) bs = true) := fall_ok HM.out
    have HCX : Hid (faCS ss cs bs = []) := by unfold Hid faCS; rw [if_pos HM.out]
    have HAL := hidden (fall_all (cs := cs) (bs := bs) HM.out (by omega))
    have HNO := hidden (fall_none HM.out)
    clear FM FO FX FB FB2 g0 g1 g3 x0 x1 x3 EA EB RA RB XA XB OB R2 q0 q1 q2 q3 hSc X2 M2 B2
    generalize faSS ss cs bs (p * 256 + q) = SX at RX0 HSX HLX HOX
    rw [HCX.out] at RX1 HOX
    clear HCX
    obtain ⟨t0, t1, t2, t3⟩ := XM.out.cells4
    go_wp2_with fail
    refine (implFallMem_any _ 57 m0 m1 m3 l0 c0 l1 c1 l3 c3 ss cs false bs _ RM0.out RM1.out RM3.out HWT.out).mono ?_
    rintro e wy ⟨yv0, yv1, yv3, rfl, o, b⟩
    rw [HAL.out] at o
    obtain ⟨yd0, yk0, ye0, yd1, yk1, ye1, yd3, yk3, ye3, hs0, hs1, hs3⟩ := mem_slices o
    subst hs0 hs1 hs3
    have bA : Below u.heap.size u (wy.alloc (.cells #[.slice yd0 yk0 ye0, .slice yd1 yk1 ye1, .bool false, .slice yd3 yk3 ye3] 44)) := b.alloc b.size _
    have RM0' := hidden (RM0.out.below bA)
    have RM1' := hidden (RM1.out.below bA)
    have RM3' := hidden (RM3.out.below bA)
    have RX0' := hidden (RX0.out.below bA)
    have RX1' := hidden (RX1.out.below bA)
    have RX3' := hidden (RX3.out.below bA)
    have XM' := hidden (XM.out.below bA XM.out.lt)
    have XX' := hidden (XX.out.below bA XX.out.lt)
    have BW' := hidden (Below.andThen BW.out bA)
    have RY0 := hidden ((mem_parts o).1.below ((Below.refl _ _).alloc (Nat.le_refl _) (.cells #[.slice yd0 yk0 ye0, .slice yd1 yk1 ye1, .bool false, .slice yd3 yk3 ye3] 44)))
    have XY := hidden (Box.new wy 44 #[.slice yd0 yk0 ye0, .slice yd1 yk1 ye1, .bool false, .slice yd3 yk3 ye3])
    have z_XM_wy := XM.out.lt
    clear RM0 RM1 RM3 RX0 RX1 RX3 XM XX BW bA o b t0 t1 t2 t3
    have RM0 := RM0'
    have RM1 := RM1'
    have RM3 := RM3'
    have RX0 := RX0'
    have RX1 := RX1'
    have RX3 := RX3'
    have XM := XM'
    have XX := XX'
    have BW := BW'
    clear RM0' RM1' RM3' RX0' RX1' RX3' XM' XX' BW'
    obtain ⟨t0, t1, t2, t3⟩ := XM.out.cells4
    go_wp2_with fail
    generalize wy.alloc (.cells #[.slice yd0 yk0 ye0, .slice yd1 yk1 ye1, .bool false, .slice yd3 yk3 ye3] 44) = Awy at RM0 RM1 RM3 RX0 RX1 RX3 RY0 XM XX XY BW ⊢
    refine (implFallMem_any _ 57 m0 m1 m3 l0 c0 l1 c1 l3 c3 ss cs false bs _ RM0.out RM1.out RM3.out HWT.out).mono ?_
    rintro e wz ⟨zv0, zv1, zv3, rfl, o, b⟩
    rw [HNO.out] at o
    obtain ⟨zd0, zk0, ze0, zd1, zk1, ze1, zd3, zk3, ze3, hs0, hs1, hs3⟩ := mem_slices o
    subst hs0 hs1 hs3
    have bA : Below Awy.heap.size Awy (wz.alloc (.cells #[.slice zd0 zk0 ze0, .slice zd1 zk1 ze1, .bool false, .slice zd3 zk3 ze3] 44)) := b.alloc b.size _
    have RM0' := hidden (RM0.out.below bA)
    have RM1' := hidden (RM1.out.below bA)
    have RM3' := hidden (RM3.out.below bA)
    have RX0' := hidden (RX0.out.below bA)
    have RX1' := hidden (RX1.out.below bA)
    have RX3' := hidden (RX3.out.below bA)
    have RY0' := hidden (RY0.out.below bA)
    have XM' := hidden (XM.out.below bA XM.out.lt)
    have XX' := hidden (XX.out.below bA XX.out.lt)
    have XY' := hidden (XY.out.below bA XY.out.lt)
    have BW' := hidden (Below.andThen BW.out bA)
    have RZ0 := hidden ((mem_parts o).1.below ((Below.refl _ _).alloc (Nat.le_refl _) (.cells #[.slice zd0 zk0 ze0, .slice zd1 zk1 ze1, .bool false, .slice zd3 zk3 ze3] 44)))
    have XZ := hidden (Box.new wz 44 #[.slice zd0 zk0 ze0, .slice zd1 zk1 ze1, .bool false, .slice zd3 zk3 ze3])
    have z_XM_wz := XM.out.lt
    clear RM0 RM1 RM3 RX0 RX1 RX3 RY0 XM XX XY BW bA o b t0 t1 t2 t3
    have RM0 := RM0'
    have RM1 := RM1'
    have RM3 := RM3'
    have RX0 := RX0'
    have RX1 := RX1'
    have RX3 := RX3'
    have RY0 := RY0'
    have XM := XM'
    have XX := XX'
    have XY := XY'
    have BW := BW'
    clear RM0' RM1' RM3' RX0' RX1' RX3' RY0' XM' XX' XY' BW'
    obtain ⟨t0, t1, t2, t3⟩ := XM.out.cells4
    go_wp2_with fail
    generalize wz.alloc (.cells #[.slice zd0 zk0 ze0, .slice zd1 zk1 ze1, .bool false, .slice zd3 zk3 ze3] 44) = Awz at RM0 RM1 RM3 RX0 RX1 RX3 RY0 RZ0 XM XX XY XZ BW ⊢
    refine (implFlushMem_any _ 57 m0 m1 m3 l0 c0 l1 c1 l3 c3 ss cs false bs RM0.out RM1.out RM3.out HWT.out).mono ?_
    rintro e wf ⟨fv0, fv1, fv3, rfl, o, b⟩
    obtain ⟨fd0, fk0, fe0, fd1, fk1, fe1, fd3, fk3, fe3, hs0, hs1, hs3⟩ := mem_slices o
    subst hs0 hs1 hs3
    have bA : Below Awz.heap.size Awz (wf.alloc (.cells #[.slice fd0 fk0 fe0, .slice fd1 fk1 fe1, .bool false, .slice fd3 fk3 fe3] 44)) := b.alloc b.size _
    have RM0' := hidden (RM0.out.below bA)
    have RM1' := hidden (RM1.out.below bA)
    have RM3' := hidden (RM3.out.below bA)
    have RX0' := hidden (RX0.out.below bA)
    have RX1' := hidden (RX1.out.below bA)
    have RX3' := hidden (RX3.out.below bA)
    have RY0' := hidden (RY0.out.below bA)
    have RZ0' := hidden (RZ0.out.below bA)
    have XM' := hidden (XM.out.below bA XM.out.lt)
    have XX' := hidden (XX.out.below bA XX.out.lt)
    have XY' := hidden (XY.out.below bA XY.out.lt)
    have XZ' := hidden (XZ.out.below bA XZ.out.lt)
    have BW' := hidden (Below.andThen BW.out bA)
    have RF0 := hidden ((mem_parts o).1.below ((Below.refl _ _).alloc (Nat.le_refl _) (.cells #[.slice fd0 fk0 fe0, .slice fd1 fk1 fe1, .bool false, .slice fd3 fk3 fe3] 44)))
    have XF := hidden (Box.new wf 44 #[.slice fd0 fk0 fe0, .slice fd1 fk1 fe1, .bool false, .slice fd3 fk3 fe3])
    have z_XM_wf := XM.out.lt
    clear RM0 RM1 RM3 RX0 RX1 RX3 RY0 RZ0 XM XX XY XZ BW bA o b t0 t1 t2 t3
    have RM0 := RM0'
    have RM1 := RM1'
    have RM3 := RM3'
    have RX0 := RX0'
    have RX1 := RX1'
    have RX3 := RX3'
    have RY0 := RY0'
    have RZ0 := RZ0'
    have XM := XM'
    have XX := XX'
    have XY := XY'
    have XZ := XZ'
    have BW := BW'
    clear RM0' RM1' RM3' RX0' RX1' RX3' RY0' RZ0' XM' XX' XY' XZ' BW'
    have HSF := hidden (flush_small HM.out)
    generalize flSS ss cs false bs = SF at RY0 RF0 HLF HSF
    obtain ⟨hSS, hCC⟩ := mem_small HM.out
    obtain ⟨hSXs, _⟩ := mem_small HOX.out
    have HSS := hidden hSS
    have HCC := hidden hCC
    have HXS := hidden hSXs
    clear hSS hCC hSXs HAL HNO
    have HL0 := hidden (row_length RM0.out).1
    have HL1 := hidden (row_length RM1.out).1
    have HK0 : Hid (k0 = l0) := by have h1 := (row_length RX0.out).1; have h2 := HLX.out; have h3 := HL0.out; unfold Hid; omega
    have HY0 : Hid (yk0 = l0) := by have h1 := (row_length RY0.out).1; have h2 := HLF.out; have h3 := HL0.out; unfold Hid; omega
    have HZ0 : Hid (zk0 = l0) := by have h1 := (row_length RZ0.out).1; have h3 := HL0.out; unfold Hid; omega
    have HF0 : Hid (fk0 = l0) := by have h1 := (row_length RF0.out).1; have h2 := HLF.out; have h3 := HL0.out; unfold Hid; omega
    have hl0 : l0 ≤ 7 := by have := HL0.out; omega
    have hl1 : l1 ≤ 7 := by have := HL1.out; omega
    go_wp2_with fail
    generalize wf.alloc (.cells #[.slice fd0 fk0 fe0, .slice fd1 fk1 fe1, .bool false, .slice fd3 fk3 fe3] 44) = W at RM0 RM1 RM3 RX0 RX1 RX3 RY0 RZ0 RF0 XM XX XY XZ XF BW ⊢
    have hm0 : ∀ v : World, Same W v → v.cell? ⟨BM, 0, none⟩ = some (.slice m0 l0 c0) := fun v s => (s.cell _).trans (XM.out.cell 0)
    have hm1 : ∀ v : World, Same W v → v.cell? ⟨BM, 1, none⟩ = some (.slice m1 l1 c1) := fun v s => (s.cell _).trans (XM.out.cell 1)
    have hx0 : ∀ v : World, Same W v → v.cell? ⟨BO, 0, none⟩ = some (.slice d0 k0 e0) := fun v s => (s.cell _).trans (XX.out.cell 0)
    have hy0 : ∀ v : World, Same W v → v.cell? ⟨wy.heap.size, 0, none⟩ = some (.slice yd0 yk0 ye0) := fun v s => (s.cell _).trans (XY.out.cell 0)
    have hz0 : ∀ v : World, Same W v → v.cell? ⟨wz.heap.size, 0, none⟩ = some (.slice zd0 zk0 ze0) := fun v s => (s.cell _).trans (XZ.out.cell 0)
    have hf0 : ∀ v : World, Same W v → v.cell? ⟨wf.heap.size, 0, none⟩ = some (.slice fd0 fk0 fe0) := fun v s => (s.cell _).trans (XF.out.cell 0)
    have Hm0_ := hidden hm0
    have Hm1_ := hidden hm1
    have Hx0_ := hidden hx0
    have Hy0_ := hidden hy0
    have Hz0_ := hidden hz0
    have Hf0_ := hidden hf0
    clear hm0 hm1 hx0 hy0 hz0 hf0
    go_loopw [8] (fun i wr => ∃ j : Nat, j ≤ l0 ∧ i = .int .i64 j ∧ Same W wr) (fun i _ => l0 - (intOf i).toNat)
    case atStart => exact ⟨0, Nat.zero_le _, rfl, Same.refl _⟩
    case round =>
      obtain ⟨j, hj, rfl, hs⟩ := hrel
      have cm0 := Hm0_.out wr hs
      by_cases hlt : j < l0
      · have i1 : (0 : Int) ≤ (j : Int) := by omega
        have i2 : (j : Int) < (l0 : Int) := by omega
        have i3 : (j : Int) < (k0 : Int) := by have := HK0.out; omega
        have i4 : (j : Int) < (yk0 : Int) := by have := HY0.out; omega
        have i5 : (j : Int) < (zk0 : Int) := by have := HZ0.out; omega
        have i6 : (j : Int) < (fk0 : Int) := by have := HF0.out; omega
        obtain ⟨gam, gom, sm, vm, nm, rfl, hsm, hcm, hrm⟩ := sec_at (j := j) RM0.out hlt
        obtain ⟨gax, gox, sx, vx, nx, rfl, hsx, hcx, hrx⟩ := sec_at (j := j) RX0.out (by have := HK0.out; omega)
        obtain ⟨gay, goy, sy, vy, ny, rfl, hsy, hcy, hry⟩ := sec_at (j := j) RY0.out (by have := HY0.out; omega)
        obtain ⟨gaz, goz, sz, vz, nz, rfl, hsz, hcz, hrz⟩ := sec_at (j := j) RZ0.out (by have := HZ0.out; omega)
        obtain ⟨gaf, gof, sf, vf, nf, rfl, hsf, hcf, hrf⟩ := sec_at (j := j) RF0.out (by have := HF0.out; omega)
        have HSM := hidden hsm
        have HSXJ := hidden hsx
        have hyf : sy = sf := by have := hsy.symm.trans hsf; simpa using this
        have hzm : sz = sm := by have := hsz.symm.trans hsm; simpa using this
        subst hyf hzm
        have lm : sz.length ≤ 12 := HSS.out _ (List.mem_of_getElem? hsz)
        have lx : sx.length ≤ 12 := HXS.out _ (List.mem_of_getElem? hsx)
        have ly : sy.length ≤ 12 := HSF.out _ (List.mem_of_getElem? hsy)
        have Cm : Hid (∀ v : World, Same W v → v.cell? ⟨gam, gom + j, none⟩ = some (.slice vm sz.length nm)) := fun v s => (s.cell _).trans hcm
        have Cx : Hid (∀ v : World, Same W v → v.cell? ⟨gax, gox + j, none⟩ = some (.slice vx sx.length nx)) := fun v s => (s.cell _).trans hcx
        have Cy : Hid (∀ v : World, Same W v → v.cell? ⟨gay, goy + j, none⟩ = some (.slice vy sy.length ny)) := fun v s => (s.cell _).trans hcy
        have Cz : Hid (∀ v : World, Same W v → v.cell? ⟨gaz, goz + j, none⟩ = some (.slice vz sz.length nz)) := fun v s => (s.cell _).trans hcz
        have Cf : Hid (∀ v : World, Same W v → v.cell? ⟨gaf, gof + j, none⟩ = some (.slice vf sy.length nf)) := fun v s => (s.cell _).trans hcf
        have Rm_ := hidden hrm
        have Rx_ := hidden hrx
        have Ry_ := hidden hry
        have Rz_ := hidden hrz
        have Rf_ := hidden hrf
        clear hsm hsx hsy hsz hsf hcm hcx hcy hcz hcf hrm hrx hry hrz hrf
        have hsd : Same W wr.drew := hs.drew
        go_wp2_with fail
        go_region_held3 (fun v => v.cell? ⟨BO, 0, none⟩ = some (.slice (some ⟨gax, gox, none⟩) k0 e0) ∧ v.cell? ⟨gax, gox + j, none⟩ = some (.slice vx sx.length nx) ∧ v.cell? ⟨BM, 0, none⟩ = some (.slice (some ⟨gam, gom, none⟩) l0 c0) ∧ v.cell? ⟨gam, gom + j, none⟩ = some (.slice vm sz.length nm))
          (first | (with_reducible exact ⟨Hx0_.out wa sa, Cx.out wa sa, Hm0_.out wa sa, Cm.out wa sa⟩) | (with_reducible exact ⟨Hx0_.out wr.drew hsd, Cx.out wr.drew hsd, Hm0_.out wr.drew hsd, Cm.out wr.drew hsd⟩) | (with_reducible exact ⟨Hx0_.out wr hs, Cx.out wr hs, Hm0_.out wr hs, Cm.out wr hs⟩) | go_keep)
          (first | (go_at_call 17; refine (sameInts_any _ _ _ _ _ _ _ sx sz rfl rfl (Rx_.out.same hsd) (Rm_.out.same hsd) (by omega)).mono ?_; rintro e wa ⟨rfl, sa0⟩; have sa : Same W wa := hsd.trans sa0; clear sa0))
        have cm1 := Hm1_.out wa sa
        have MB0 : Hid (mayB sx sz (j : Int) cs 0 (decide (sx = sz))) := mayB_start
        generalize decide (sx = sz) = b0 at MB0 ⊢
        go_wp2_with fail
        go_loopw [9, 10] (fun may k wr => ∃ (b : Bool) (i : Nat), i ≤ l1 ∧ k = .int .i64 i ∧ may = .bool b ∧ Hid (mayB sx sz (j : Int) cs i b) ∧ Same W wr) (fun _ k _ => l1 - (intOf k).toNat)
        case atStart => exact ⟨b0, 0, Nat.zero_le _, rfl, rfl, MB0, sa⟩
        case round =>
          obtain ⟨b, i, hi, rfl, rfl, MB, hs2⟩ := hrel
          clear MB0 sa cm1 cm0
          have cm1 := Hm1_.out wr hs2
          have hsd2 : Same W wr.drew := hs2.drew
          by_cases hil : i < l1
          · have j1 : (0 : Int) ≤ (i : Int) := by omega
            have j2 : (i : Int) < (l1 : Int) := by omega
            obtain ⟨bc, oc, x0, x1, vc, nc, hbc, hci, hc0, hc1, hrc⟩ := wr_at (j := i) RM1.out hil
            subst hbc
            have Cc0 : Hid (∀ v : World, Same W v → v.cell? ⟨bc, oc + i * 2, none⟩ = some (.int .i64 x0)) := fun v s => (s.cell _).trans hc0
            have Cc1 : Hid (∀ v : World, Same W v → v.cell? ⟨bc, oc + i * 2 + 1, none⟩ = some (.slice vc x1.length nc)) := fun v s => (s.cell _).trans hc1
            have Rc_ := hidden hrc
            have HCI := hidden hci
            clear hc0 hc1 hrc hci
            cases b
            · by_cases he : x0 = (j : Int)
              · have eb : (x0 == (j : Int)) = true := by simpa using he
                clear he
                by_cases hd : sx = x1
                · have hdd : decide (sx = x1) = true := by simpa using hd
                  clear hd
                  go_wp2_with fail
                  go_region_held3 (fun v => v.cell? ⟨BM, 1, none⟩ = some (.slice (some ⟨bc, oc, none⟩) l1 c1) ∧ v.cell? ⟨bc, oc + i * 2, none⟩ = some (.int .i64 x0) ∧ v.cell? ⟨bc, oc + i * 2 + 1, none⟩ = some (.slice vc x1.length nc) ∧ v.cell? ⟨BO, 0, none⟩ = some (.slice (some ⟨gax, gox, none⟩) k0 e0) ∧ v.cell? ⟨gax, gox + j, none⟩ = some (.slice vx sx.length nx))
                    (first | (with_reducible exact ⟨Hm1_.out wb sb, Cc0.out wb sb, Cc1.out wb sb, Hx0_.out wb sb, Cx.out wb sb⟩) | (with_reducible exact ⟨Hm1_.out wr.drew hsd2, Cc0.out wr.drew hsd2, Cc1.out wr.drew hsd2, Hx0_.out wr.drew hsd2, Cx.out wr.drew hsd2⟩) | (with_reducible exact ⟨Hm1_.out wr hs2, Cc0.out wr hs2, Cc1.out wr hs2, Hx0_.out wr hs2, Cx.out wr hs2⟩) | go_keep)
                    (first | (go_at_call 17; refine (sameInts_any _ _ _ _ _ _ _ sx x1 rfl rfl (Rx_.out.same hsd2) (Rc_.out.same hsd2) (by omega)).mono ?_; rintro e wb ⟨rfl, sb0⟩; have sb : Same W wb := hsd2.trans sb0; clear sb0))
                  go_wp2
                  go_roundw
                  case rel => exact ⟨true, i + 1, by omega, by go_num, rfl, mayB_true, sb⟩
                  case measure => simp [intOf]; omega
                · have hdd : decide (sx = x1) = false := by simpa using hd
                  have MN := hidden (mayB_no MB.out HCI.out (.inr hd))
                  clear hd
                  go_wp2_with fail
                  go_region_held3 (fun v => v.cell? ⟨BM, 1, none⟩ = some (.slice (some ⟨bc, oc, none⟩) l1 c1) ∧ v.cell? ⟨bc, oc + i * 2, none⟩ = some (.int .i64 x0) ∧ v.cell? ⟨bc, oc + i * 2 + 1, none⟩ = some (.slice vc x1.length nc) ∧ v.cell? ⟨BO, 0, none⟩ = some (.slice (some ⟨gax, gox, none⟩) k0 e0) ∧ v.cell? ⟨gax, gox + j, none⟩ = some (.slice vx sx.length nx))
                    (first | (with_reducible exact ⟨Hm1_.out wb sb, Cc0.out wb sb, Cc1.out wb sb, Hx0_.out wb sb, Cx.out wb sb⟩) | (with_reducible exact ⟨Hm1_.out wr.drew hsd2, Cc0.out wr.drew hsd2, Cc1.out wr.drew hsd2, Hx0_.out wr.drew hsd2, Cx.out wr.drew hsd2⟩) | (with_reducible exact ⟨Hm1_.out wr hs2, Cc0.out wr hs2, Cc1.out wr hs2, Hx0_.out wr hs2, Cx.out wr hs2⟩) | go_keep)
                    (first | (go_at_call 17; refine (sameInts_any _ _ _ _ _ _ _ sx x1 rfl rfl (Rx_.out.same hsd2) (Rc_.out.same hsd2) (by omega)).mono ?_; rintro e wb ⟨rfl, sb0⟩; have sb : Same W wb := hsd2.trans sb0; clear sb0))
                  go_wp2
                  go_roundw
                  case rel => exact ⟨false, i + 1, by omega, by go_num, rfl, MN, sb⟩
                  case measure => simp [intOf]; omega
              · have eb : (x0 == (j : Int)) = false := by simpa using he
                have MN := hidden (mayB_no MB.out HCI.out (.inl he))
                clear he
                have kc0 := Cc0.out wr hs2
                go_wp2_with fail
                go_quiet (fail)
                go_wp2
                go_roundw
                case rel => exact ⟨false, i + 1, by omega, by go_num, rfl, MN, hs2.drewN _⟩
                case measure => simp [intOf]; omega
            · go_wp2_with fail
              go_quiet (fail)
              go_wp2
              go_roundw
              case rel => exact ⟨true, i + 1, by omega, by go_num, rfl, mayB_true, hs2.drewN _⟩
              case measure => simp [intOf]; omega
          · have hb : b = true := mayB_end MB.out (by have := HL1.out; omega) HSXJ.out HSM.out (HSX.out j (by have := HL0.out; omega))
            subst hb
            have hdy : decide (sy = sy) = true := by simp
            have hdz : decide (sz = sz) = true := by simp
            go_wp2_with fail
            go_region_held3 (fun v => v.cell? ⟨wy.heap.size, 0, none⟩ = some (.slice (some ⟨gay, goy, none⟩) yk0 ye0) ∧ v.cell? ⟨gay, goy + j, none⟩ = some (.slice vy sy.length ny) ∧ v.cell? ⟨wf.heap.size, 0, none⟩ = some (.slice (some ⟨gaf, gof, none⟩) fk0 fe0) ∧ v.cell? ⟨gaf, gof + j, none⟩ = some (.slice vf sy.length nf) ∧ v.cell? ⟨wz.heap.size, 0, none⟩ = some (.slice (some ⟨gaz, goz, none⟩) zk0 ze0) ∧ v.cell? ⟨gaz, goz + j, none⟩ = some (.slice vz sz.length nz) ∧ v.cell? ⟨BM, 0, none⟩ = some (.slice (some ⟨gam, gom, none⟩) l0 c0) ∧ v.cell? ⟨gam, gom + j, none⟩ = some (.slice vm sz.length nm))
              (first | (with_reducible exact ⟨Hy0_.out wd sd, Cy.out wd sd, Hf0_.out wd sd, Cf.out wd sd, Hz0_.out wd sd, Cz.out wd sd, Hm0_.out wd sd, Cm.out wd sd⟩) | (with_reducible exact ⟨Hy0_.out wc sc, Cy.out wc sc, Hf0_.out wc sc, Cf.out wc sc, Hz0_.out wc sc, Cz.out wc sc, Hm0_.out wc sc, Cm.out wc sc⟩) | (with_reducible exact ⟨Hy0_.out wr.drew hsd2, Cy.out wr.drew hsd2, Hf0_.out wr.drew hsd2, Cf.out wr.drew hsd2, Hz0_.out wr.drew hsd2, Cz.out wr.drew hsd2, Hm0_.out wr.drew hsd2, Cm.out wr.drew hsd2⟩) | (with_reducible exact ⟨Hy0_.out wr hs2, Cy.out wr hs2, Hf0_.out wr hs2, Cf.out wr hs2, Hz0_.out wr hs2, Cz.out wr hs2, Hm0_.out wr hs2, Cm.out wr hs2⟩) | go_keep)
              (first | (have hgd := sc; go_at_call 17; refine (sameInts_any _ _ _ _ _ _ _ sz sz rfl rfl (Rz_.out.same sc) (Rm_.out.same sc) (by omega)).mono ?_; rintro e wd ⟨rfl, sd0⟩; have sd : Same W wd := sc.trans sd0; clear sd0) | (go_at_call 17; refine (sameInts_any _ _ _ _ _ _ _ sy sy rfl rfl (Ry_.out.same hsd2) (Rf_.out.same hsd2) (by omega)).mono ?_; rintro e wc ⟨rfl, sc0⟩; have sc : Same W wc := hsd2.trans sc0; clear sc0))
            clear hdy hdz lm lx ly i1 i3 i4 i5 i6
            go_wp2
            go_roundw
            case rel => exact ⟨j + 1, by omega, by go_num, sd⟩
            case measure => simp [intOf]; omega
      · obtain ⟨t0, t1, t2, t3⟩ := (XM.out.same hs).cells4
        have HWX : Hid (wtMem (SX, [], false, bs) ≤ 2097152) := memB_wt HOX.out hb7 (by simp)
        go_wp2_with fail
        refine (implMemOk_any _ 57 m0 m1 m3 l0 c0 l1 c1 l3 c3 ss cs false bs (RM0.out.same hs) (RM1.out.same hs) (RM3.out.same hs) HWT.out).mono ?_
        rintro e wg ⟨rfl, bg⟩
        rw [HM.out]
        have XG := (XX.out.same hs).below bg (by have := (XX.out.same hs).lt; exact this)
        clear t0 t1 t2 t3
        obtain ⟨t0, t1, t2, t3⟩ := XG.cells4
        go_wp2_with fail
        refine (implMemOk_any _ 57 d0 d1 d3 k0 e0 k1 e1 k3 e3 SX [] false bs ((RX0.out.same hs).below bg) ((RX1.out.same hs).below bg) ((RX3.out.same hs).below bg) HWX.out).mono ?_
        rintro e wh ⟨rfl, bh⟩
        rw [HOX.out]
        have XH := XG.below bh XG.lt
        have hk1 : k1 = 0 := by have := (row_length RX1.out).1; simpa using this.symm
        subst hk1
        clear t0 t1 t2 t3
        obtain ⟨t0, t1, t2, t3⟩ := XH.cells4
        have BE := hidden (Below.andThen (Below.andThen (Below.andSame BW.out hs) bg) bh)
        go_wp2
        go_ret
        exact ⟨rfl, BE.out⟩

end Go.Proofs.Ytmkiljflkndmoaa
