/-
  At every number and every Geo the law of EngNew (exact) answers true, and nothing that was there has turned. No condition.
-/
import Derived.Test.YtgjldmjlbhkgbaaNewArr
import Derived.Test.YtgjldmjlbhkgbaaRowEngNewAll2
import Derived.Test.YtgjldmjlbhkgbaaWalkArr
import Derived.Test.YtgjldmjlbhkgbaaStore
import Derived.Test.YtgjldmjlbhkgbaaBox
import Derived.Test.YtgjldmjlbhkgbaaFrame
import Derived.Test.YtgjldmjlbhkgbaaRow4
import Derived.Test.YtgjldmjlbhkgbaaData
import Derived.Laws.IdiomCopy
import Derived.Test.YtgjldmjlbhkgbaaWalkInts
import Derived.Test.YtgjldmjlbhkgbaaWalkGeo
import Derived.Test.YtgjldmjlbhkgbaaWalkEq
import Derived.Test.YtgjldmjlbhkgbaaWalkMark
import Derived.Test.YtgjldmjlbhkgbaaWalkSecOk
import Derived.Test.YtgjldmjlbhkgbaaWalkSz
import Derived.Deep.MidRow
import Derived.Test.YtgjldmjlbhkgbaaWalkMarkMems
import Derived.Test.YtgjldmjlbhkgbaaHeld
import Derived.Test.YtgjldmjlbhkgbaaWalkToGeo
import Derived.Test.YtgjldmjlbhkgbaaRows
import Derived.Lib.SmallJoins
import Derived.WalkKit
import Derived.ProofKit
import Derived.OpenShut
import Derived.ShutString
import Derived.ChangeOld
import Derived.Below

/-
  The walk of the program's newMem: a disk of a new array, in memory of its own. Condition: the array's numbers are right.
-/
namespace Go.Proofs.Ytgjldmjlbhkgbaa
open Go.RowKit

theorem with_key_new {G A : Nat → World → Option Addr → Nat → Option Addr → Nat → Nat → Option Addr → Nat → Nat → Option Addr → Nat → Nat → Prop} {C : Prop} (main : ∀ BO WF x0 x1 x2 x3 x4 x5 x6 x7 x8 x9 x10, A BO WF x0 x1 x2 x3 x4 x5 x6 x7 x8 x9 x10 → G BO WF x0 x1 x2 x3 x4 x5 x6 x7 x8 x9 x10) (use : Hid (∀ BO WF x0 x1 x2 x3 x4 x5 x6 x7 x8 x9 x10, A BO WF x0 x1 x2 x3 x4 x5 x6 x7 x8 x9 x10 → G BO WF x0 x1 x2 x3 x4 x5 x6 x7 x8 x9 x10) → C) : C := use main

/-- A new disk in its box, j of its stripes written; the boxes of the call beside it. -/
def NewSt (w : World) (n : Int) (k : Nat) (P : List Int) (B : Nat) (wr : World) (j : Nat) : Prop :=
  ∃ (v0 v1 v3 : Value) (lo hi : Nat), Box wr B 57 #[v0, v1, .bool false, v3] ∧ (tMem 100).Own wr lo hi [v0, v1, .bool false, v3] (newSS (6 + (k : Int)), newCS P j, false, []) ∧ w.heap.size + 1 < lo ∧ hi ≤ wr.heap.size ∧ (hi ≤ B ∨ B < lo) ∧ w.heap.size + 1 < B ∧
    Box wr (w.heap.size + 1) 57 #[.slice none 0 0, .slice none 0 0, .bool false, .slice none 0 0] ∧ Gbox wr w.heap.size 24 n (k : Int) ∧ Below w.heap.size w wr

theorem new_next {w w6 : World} {n : Int} {k : Nat} {P : List Int} {B j : Nat} {v0 v1 v3 u0 u1 u3 : Value} {lo hi : Nat} (xb : Box w6 B 57 #[v0, v1, .bool false, v3]) (o : (tMem 100).Own w6 lo hi [u0, u1, .bool false, u3] (newSS (6 + (k : Int)), newCS P j, false, []))
    (r1 : w.heap.size + 1 < lo) (r2 : hi ≤ w6.heap.size) (r3 : hi ≤ B ∨ B < lo) (r4 : w.heap.size + 1 < B) (xr : Box w6 (w.heap.size + 1) 57 #[.slice none 0 0, .slice none 0 0, .bool false, .slice none 0 0]) (g : Gbox w6 w.heap.size 24 n (k : Int)) (hb : Below w.heap.size w w6) : NewSt w n k P B (set4 w6 B u0 u1 (.bool false) u3) j := by
  have hbt := set4_but w6 B u0 u1 (.bool false) u3
  have hz := hbt.size
  have hbl : Below B w6 (set4 w6 B u0 u1 (.bool false) u3) := ⟨hbt.os, hbt.tape, hbt.output, hbt.size, fun k hk => hbt.block k (by have := xb.lt; omega) (.inl hk)⟩
  exact ⟨u0, u1, u3, lo, hi, set4_box xb _ _ _ _, o.but hbt (by omega), r1, by omega, r3, r4, xr.below hbl r4, g.below hbl (by omega), hb.trans (hbl.mono (by omega))⟩

set_option linter.unusedSimpArgs false in
set_option maxRecDepth 20000 in
set_option maxHeartbeats 4000000 in
theorem newMem_any (w : World) (id n role : Int) (k : Nat) (hg : geoB n (k : Int) = true) (hid : inB id 1 60000 = true) (hr0 : 0 ≤ role) (hr1 : role < n) :
    Calls Try.prog 35 #[.int .i64 id, .agg #[.int .i64 n, .int .i64 (k : Int)], .int .i64 role] w fun e w' => ∃ v0 v1 v3, e = .returned (.agg #[v0, v1, .bool false, v3]) ∧ (tMem 100).Own w' w.heap.size w'.heap.size [v0, v1, .bool false, v3] (newPD (putD (newSup id n (k : Int) role)) k k, [], false, []) ∧ Below w.heap.size w w' := by
  obtain ⟨g1, g2, g3, g4⟩ := geoB_iff.1 hg
  have hk8 : k ≤ 8 := by omega
  have hk1 : 1 ≤ k := by omega
  have hsup := newSup_ok hg hid hr0 hr1
  obtain ⟨hn1, hn2⟩ := new_super (k := k) hk8 hsup rfl
  have hP := put_sec hsup
  generalize hPP : putD (newSup id n (k : Int) role) = P at hn1 hn2 hP ⊢
  have HN := hidden (And.intro hn1 hn2)
  have HP := hidden hP
  have HWT0 : Hid (wtMem (newSS (6 + (k : Int)), [], false, []) ≤ 2097152) := by
    have h := new_wt (j := 0) hP hk8 (Nat.zero_le _)
    unfold Hid
    unfold wtMem wtWrS at h ⊢
    simp only [List.length_nil, List.map_nil, show sumL [] = 0 from rfl] at h ⊢
    omega
  clear hn1 hn2 hP hPP hsup
  have hA := (new_below w (.cells #[.int .i64 n, .int .i64 (k : Int)] 24)).alloc (by simp) (.cells #[.slice none 0 0, .slice none 0 0, .bool false, .slice none 0 0] 57)
  have G0 : Gbox ((w.alloc (.cells #[.int .i64 n, .int .i64 (k : Int)] 24)).alloc (.cells #[.slice none 0 0, .slice none 0 0, .bool false, .slice none 0 0] 57)) w.heap.size 24 n (k : Int) := (Gbox.new w 24 n (k : Int)).below (new_below _ _) (by simp)
  have X0 := Box.new (w.alloc (.cells #[.int .i64 n, .int .i64 (k : Int)] 24)) 57 #[.slice none 0 0, .slice none 0 0, .bool false, .slice none 0 0]
  rw [World.size_alloc] at X0
  have zG := G0.lt
  have zX := X0.lt
  obtain ⟨k0, k1⟩ := G0.cells
  go_enter Try.func35, Try.ntmps35
  go_wp2_with fail
  generalize (w.alloc (.cells #[.int .i64 n, .int .i64 (k : Int)] 24)).alloc (.cells #[.slice none 0 0, .slice none 0 0, .bool false, .slice none 0 0] 57) = W at hA G0 X0 zG zX k0 k1 ⊢
  refine' with_key_new (G := _) (A := fun BO WF xa xc ya0 yl0 yc0 ya1 yl1 yc1 ya3 yl3 yc3 => Below W.heap.size W WF ∧ Box WF BO 57 #[.slice ya0 yl0 yc0, .slice ya1 yl1 yc1, .bool false, .slice ya3 yl3 yc3] ∧ ∃ lo hi, (tMem 100).Own WF lo hi [.slice ya0 yl0 yc0, .slice ya1 yl1 yc1, .bool false, .slice ya3 yl3 yc3] (newSS (6 + (k : Int)), newCS P 0, false, []) ∧ W.heap.size ≤ BO ∧ BO < WF.heap.size ∧ (BO < lo ∨ hi ≤ BO) ∧ W.heap.size ≤ lo ∧ hi ≤ WF.heap.size) ?main1 (fun key => ?use1)
  case use1 =>
    have K0 : Hid (W.drew.cell? ⟨w.heap.size, 0, none⟩ = some (.int .i64 n) ∧ W.drew.cell? ⟨w.heap.size, 1, none⟩ = some (.int .i64 (k : Int))) := ⟨k0, k1⟩
    have KA : Hid ((W.alloc (.cells #[.slice none 0 0, .slice none 0 0, .bool false, .slice none 0 0] 57)).drew.cell? ⟨w.heap.size, 0, none⟩ = some (.int .i64 n) ∧ (W.alloc (.cells #[.slice none 0 0, .slice none 0 0, .bool false, .slice none 0 0] 57)).drew.cell? ⟨w.heap.size, 1, none⟩ = some (.int .i64 (k : Int))) := ⟨(((new_below W (.cells #[.slice none 0 0, .slice none 0 0, .bool false, .slice none 0 0] 57))).cell (p := ⟨w.heap.size, 0, none⟩) zG).trans k0, (((new_below W (.cells #[.slice none 0 0, .slice none 0 0, .bool false, .slice none 0 0] 57))).cell (p := ⟨w.heap.size, 1, none⟩) zG).trans k1⟩
    go_region_held3 (fun w' => w'.cell? ⟨w.heap.size, 0, none⟩ = some (.int .i64 n) ∧ w'.cell? ⟨w.heap.size, 1, none⟩ = some (.int .i64 (k : Int)))
      (first | (with_reducible exact ⟨((FHB.out).cell (p := ⟨w.heap.size, 0, none⟩) zG).trans k0, ((FHB.out).cell (p := ⟨w.heap.size, 1, none⟩) zG).trans k1⟩) | (with_reducible exact ⟨((hbva3.out).cell (p := ⟨w.heap.size, 0, none⟩) zG).trans k0, ((hbva3.out).cell (p := ⟨w.heap.size, 1, none⟩) zG).trans k1⟩) | (with_reducible exact ⟨((hbva3.out.alloc hbva3.out.size (.cells #[.slice none 0 0, .slice none 0 0, .bool false, .slice none 0 0] 57)).cell (p := ⟨w.heap.size, 0, none⟩) zG).trans k0, ((hbva3.out.alloc hbva3.out.size (.cells #[.slice none 0 0, .slice none 0 0, .bool false, .slice none 0 0] 57)).cell (p := ⟨w.heap.size, 1, none⟩) zG).trans k1⟩) | (with_reducible exact ⟨((hbva2.out).cell (p := ⟨w.heap.size, 0, none⟩) zG).trans k0, ((hbva2.out).cell (p := ⟨w.heap.size, 1, none⟩) zG).trans k1⟩) | (with_reducible exact ⟨((hbva2.out.alloc hbva2.out.size (.cells #[.slice none 0 0, .slice none 0 0, .bool false, .slice none 0 0] 57)).cell (p := ⟨w.heap.size, 0, none⟩) zG).trans k0, ((hbva2.out.alloc hbva2.out.size (.cells #[.slice none 0 0, .slice none 0 0, .bool false, .slice none 0 0] 57)).cell (p := ⟨w.heap.size, 1, none⟩) zG).trans k1⟩) | (with_reducible exact ⟨((hbva1.out).cell (p := ⟨w.heap.size, 0, none⟩) zG).trans k0, ((hbva1.out).cell (p := ⟨w.heap.size, 1, none⟩) zG).trans k1⟩) | (with_reducible exact ⟨((hbva1.out.alloc hbva1.out.size (.cells #[.slice none 0 0, .slice none 0 0, .bool false, .slice none 0 0] 57)).cell (p := ⟨w.heap.size, 0, none⟩) zG).trans k0, ((hbva1.out.alloc hbva1.out.size (.cells #[.slice none 0 0, .slice none 0 0, .bool false, .slice none 0 0] 57)).cell (p := ⟨w.heap.size, 1, none⟩) zG).trans k1⟩) | (with_reducible exact K0.out) | (with_reducible exact KA.out) | go_keep)
      (first
        | (go_at_call 52; refine (sectorsOf_any _ n (k : Int) ⟨g3, g4⟩).mono ?_; rintro e va1 ⟨rfl, cc⟩; have cc1 : Below W.drew.heap.size W.drew va1 := (by with_reducible exact cc); have b' : Below W.heap.size W va1 := Below.andThen ((Below.refl W.heap.size W).drew) cc1; have hbva1 := hidden b'; clear cc cc1 b')
        | (go_at_call 52; refine (sectorsOf_any _ n (k : Int) ⟨g3, g4⟩).mono ?_; rintro e va1 ⟨rfl, cc⟩; have cc1 : Below (W.alloc (.cells #[.slice none 0 0, .slice none 0 0, .bool false, .slice none 0 0] 57)).drew.heap.size (W.alloc (.cells #[.slice none 0 0, .slice none 0 0, .bool false, .slice none 0 0] 57)).drew va1 := (by with_reducible exact cc); have b' : Below W.heap.size W va1 := Below.andThen ((new_below W (.cells #[.slice none 0 0, .slice none 0 0, .bool false, .slice none 0 0] 57)).drew) cc1; have xo' := (show Box (W.alloc (.cells #[.slice none 0 0, .slice none 0 0, .bool false, .slice none 0 0] 57)).drew W.heap.size 57 #[.slice none 0 0, .slice none 0 0, .bool false, .slice none 0 0] from Box.new W _ _).below cc1 (by simp); have XOva1 := hidden xo'; have hbva1 := hidden b'; clear cc cc1 b' xo')
        | (go_at_call 51; have xo := XOva1.out; refine (implMemNew_any _ (6 + (k : Int))).mono ?_; rintro e va2 ⟨xa, xc, rfl, o, cc⟩; have cc1 : Below va1.heap.size va1 va2 := (by with_reducible exact cc); have b' : Below W.heap.size W va2 := Below.andThen (hbva1.out) cc1; have Yva2 := hidden o; have xo' := xo.below cc1 xo.lt; have XOva2 := hidden xo'; have hbva2 := hidden b'; clear cc cc1 b' o xo xo')
        | (go_at_call 51; refine (implMemNew_any _ (6 + (k : Int))).mono ?_; rintro e va2 ⟨xa, xc, rfl, o, cc⟩; have cc1 : Below va1.heap.size va1 va2 := (by with_reducible exact cc); have b' : Below W.heap.size W va2 := Below.andThen (hbva1.out) cc1; have Yva2 := hidden o; have hbva2 := hidden b'; clear cc cc1 b' o)
        | (go_at_call 51; refine (implMemNew_any _ (6 + (k : Int))).mono ?_; rintro e va2 ⟨xa, xc, rfl, o, cc⟩; have cc1 : Below (va1.alloc (.cells #[.slice none 0 0, .slice none 0 0, .bool false, .slice none 0 0] 57)).heap.size (va1.alloc (.cells #[.slice none 0 0, .slice none 0 0, .bool false, .slice none 0 0] 57)) va2 := (by with_reducible exact cc); have b' : Below W.heap.size W va2 := Below.andThen ((hbva1.out.alloc hbva1.out.size (.cells #[.slice none 0 0, .slice none 0 0, .bool false, .slice none 0 0] 57))) cc1; have Yva2 := hidden o; have xo' := (show Box (va1.alloc (.cells #[.slice none 0 0, .slice none 0 0, .bool false, .slice none 0 0] 57)) va1.heap.size 57 #[.slice none 0 0, .slice none 0 0, .bool false, .slice none 0 0] from Box.new va1 _ _).below cc1 (by simp); have XOva2 := hidden xo'; have hbva2 := hidden b'; clear cc cc1 b' o xo')
        | (go_at_call 50; have xo : Box va2 W.heap.size 57 #[.slice none 0 0, .slice none 0 0, .bool false, .slice none 0 0] := (by with_reducible exact XOva2.out); refine (implWriteSuper_any _ 100 _ _ _ _ _ _ _ _ _ (newSS (6 + (k : Int))) [] false [] (newSup id n (k : Int) role) (by with_reducible exact (Yva2.out).rd) (nil_own _ 0 0).rd (nil_own _ 0 0).rd HWT0.out).mono ?_; rintro e va3 ⟨u0, u1, u3, rfl, o, cc⟩; have cc1 : Below va2.heap.size va2 va3 := (by with_reducible exact cc); rw [HN.out.1, HN.out.2] at o; obtain ⟨ya0, yl0, yc0, ya1, yl1, yc1, ya3, yl3, yc3, hv0, hv1, hv3⟩ := mem_letters2 o; subst hv0 hv1 hv3; have b' : Below W.heap.size W va3 := Below.andThen (hbva2.out) cc1; have Yva3 := hidden ((Yva2.out).below cc1); have xo' := xo.below cc1 xo.lt; have hbva3 := hidden b'; have zb := (hbva2.out).size; have zc := cc1.size; have zx := xo'.lt; have zd := XOva2.out.lt; obtain ⟨s0, s1, s2, s3⟩ := xo'.cells4; have u0 := xo'.frozen 0; have u1 := xo'.frozen 1; have u2 := xo'.frozen 2; have u3 := xo'.frozen 3; have hbs := set4_but va3 (W.heap.size) (.slice ya0 yl0 yc0) (.slice ya1 yl1 yc1) (.bool false) (.slice ya3 yl3 yc3); have zs := hbs.size; have FHB := hidden (b'.trans (hbs.below (B := W.heap.size) (by omega) (by omega))); have FXB := hidden (set4_box xo' (.slice ya0 yl0 yc0) (.slice ya1 yl1 yc1) (.bool false) (.slice ya3 yl3 yc3)); have FOW := hidden (o.but hbs (.inr (by omega))); have FZ : Hid (W.heap.size ≤ W.heap.size ∧ W.heap.size < (set4 va3 (W.heap.size) (.slice ya0 yl0 yc0) (.slice ya1 yl1 yc1) (.bool false) (.slice ya3 yl3 yc3)).heap.size ∧ (W.heap.size < va2.heap.size ∨ va3.heap.size ≤ W.heap.size) ∧ W.heap.size ≤ va2.heap.size ∧ va3.heap.size ≤ (set4 va3 (W.heap.size) (.slice ya0 yl0 yc0) (.slice ya1 yl1 yc1) (.bool false) (.slice ya3 yl3 yc3)).heap.size) := (by unfold Hid; omega); unfold set4 at FHB FXB FOW FZ; clear cc cc1 b' xo xo' zb zc o zd zx hbs zs)
        | (go_at_call 50; have xo : Box va2 va1.heap.size 57 #[.slice none 0 0, .slice none 0 0, .bool false, .slice none 0 0] := (by with_reducible exact XOva2.out); refine (implWriteSuper_any _ 100 _ _ _ _ _ _ _ _ _ (newSS (6 + (k : Int))) [] false [] (newSup id n (k : Int) role) (by with_reducible exact (Yva2.out).rd) (nil_own _ 0 0).rd (nil_own _ 0 0).rd HWT0.out).mono ?_; rintro e va3 ⟨u0, u1, u3, rfl, o, cc⟩; have cc1 : Below va2.heap.size va2 va3 := (by with_reducible exact cc); rw [HN.out.1, HN.out.2] at o; obtain ⟨ya0, yl0, yc0, ya1, yl1, yc1, ya3, yl3, yc3, hv0, hv1, hv3⟩ := mem_letters2 o; subst hv0 hv1 hv3; have b' : Below W.heap.size W va3 := Below.andThen (hbva2.out) cc1; have Yva3 := hidden ((Yva2.out).below cc1); have xo' := xo.below cc1 xo.lt; have hbva3 := hidden b'; have zb := (hbva2.out).size; have zc := cc1.size; have zx := xo'.lt; have zd := XOva2.out.lt; obtain ⟨s0, s1, s2, s3⟩ := xo'.cells4; have u0 := xo'.frozen 0; have u1 := xo'.frozen 1; have u2 := xo'.frozen 2; have u3 := xo'.frozen 3; have hbs := set4_but va3 (va1.heap.size) (.slice ya0 yl0 yc0) (.slice ya1 yl1 yc1) (.bool false) (.slice ya3 yl3 yc3); have zs := hbs.size; have zq := hbva1.out.size; have FHB := hidden (b'.trans (hbs.below (B := W.heap.size) (by omega) (by omega))); have FXB := hidden (set4_box xo' (.slice ya0 yl0 yc0) (.slice ya1 yl1 yc1) (.bool false) (.slice ya3 yl3 yc3)); have FOW := hidden (o.but hbs (.inr (by omega))); have FZ : Hid (W.heap.size ≤ va1.heap.size ∧ va1.heap.size < (set4 va3 (va1.heap.size) (.slice ya0 yl0 yc0) (.slice ya1 yl1 yc1) (.bool false) (.slice ya3 yl3 yc3)).heap.size ∧ (va1.heap.size < va2.heap.size ∨ va3.heap.size ≤ va1.heap.size) ∧ W.heap.size ≤ va2.heap.size ∧ va3.heap.size ≤ (set4 va3 (va1.heap.size) (.slice ya0 yl0 yc0) (.slice ya1 yl1 yc1) (.bool false) (.slice ya3 yl3 yc3)).heap.size) := (by unfold Hid; omega); unfold set4 at FHB FXB FOW FZ; clear cc cc1 b' xo xo' zb zc o zd zx hbs zs zq)
        | (go_at_call 50; refine (implWriteSuper_any _ 100 _ _ _ _ _ _ _ _ _ (newSS (6 + (k : Int))) [] false [] (newSup id n (k : Int) role) (by with_reducible exact (Yva2.out).rd) (nil_own _ 0 0).rd (nil_own _ 0 0).rd HWT0.out).mono ?_; rintro e va3 ⟨u0, u1, u3, rfl, o, cc⟩; have cc1 : Below va2.heap.size va2 va3 := (by with_reducible exact cc); rw [HN.out.1, HN.out.2] at o; obtain ⟨ya0, yl0, yc0, ya1, yl1, yc1, ya3, yl3, yc3, hv0, hv1, hv3⟩ := mem_letters2 o; subst hv0 hv1 hv3; have b' : Below W.heap.size W va3 := Below.andThen (hbva2.out) cc1; have Yva3 := hidden ((Yva2.out).below cc1); have hbva3 := hidden b'; have zb := (hbva2.out).size; have zc := cc1.size; have zf : (va3.alloc (.cells #[.slice ya0 yl0 yc0, .slice ya1 yl1 yc1, .bool false, .slice ya3 yl3 yc3] 57)).heap.size = va3.heap.size + 1 := (by simp); have FHB := hidden (b'.alloc b'.size (.cells #[.slice ya0 yl0 yc0, .slice ya1 yl1 yc1, .bool false, .slice ya3 yl3 yc3] 57)); have FXB := hidden (Box.new va3 57 #[.slice ya0 yl0 yc0, .slice ya1 yl1 yc1, .bool false, .slice ya3 yl3 yc3]); have FOW := hidden (o.below (new_below va3 (.cells #[.slice ya0 yl0 yc0, .slice ya1 yl1 yc1, .bool false, .slice ya3 yl3 yc3] 57))); have FZ : Hid (W.heap.size ≤ va3.heap.size ∧ va3.heap.size < (va3.alloc (.cells #[.slice ya0 yl0 yc0, .slice ya1 yl1 yc1, .bool false, .slice ya3 yl3 yc3] 57)).heap.size ∧ (va3.heap.size < va2.heap.size ∨ va3.heap.size ≤ va3.heap.size) ∧ W.heap.size ≤ va2.heap.size ∧ va3.heap.size ≤ (va3.alloc (.cells #[.slice ya0 yl0 yc0, .slice ya1 yl1 yc1, .bool false, .slice ya3 yl3 yc3] 57)).heap.size) := (by unfold Hid; omega); clear cc cc1 b' zb zc o zf)
        | (go_at_call 50; refine (implWriteSuper_any _ 100 _ _ _ _ _ _ _ _ _ (newSS (6 + (k : Int))) [] false [] (newSup id n (k : Int) role) (by with_reducible exact ((Yva2.out.below (new_below va2 (.cells #[.slice none 0 0, .slice none 0 0, .bool false, .slice none 0 0] 57)))).rd) (nil_own _ 0 0).rd (nil_own _ 0 0).rd HWT0.out).mono ?_; rintro e va3 ⟨u0, u1, u3, rfl, o, cc⟩; have cc1 : Below (va2.alloc (.cells #[.slice none 0 0, .slice none 0 0, .bool false, .slice none 0 0] 57)).heap.size (va2.alloc (.cells #[.slice none 0 0, .slice none 0 0, .bool false, .slice none 0 0] 57)) va3 := (by with_reducible exact cc); rw [HN.out.1, HN.out.2] at o; obtain ⟨ya0, yl0, yc0, ya1, yl1, yc1, ya3, yl3, yc3, hv0, hv1, hv3⟩ := mem_letters2 o; subst hv0 hv1 hv3; have b' : Below W.heap.size W va3 := Below.andThen ((hbva2.out.alloc hbva2.out.size (.cells #[.slice none 0 0, .slice none 0 0, .bool false, .slice none 0 0] 57))) cc1; have Yva3 := hidden (((Yva2.out.below (new_below va2 (.cells #[.slice none 0 0, .slice none 0 0, .bool false, .slice none 0 0] 57)))).below cc1); have xo' := (show Box (va2.alloc (.cells #[.slice none 0 0, .slice none 0 0, .bool false, .slice none 0 0] 57)) va2.heap.size 57 #[.slice none 0 0, .slice none 0 0, .bool false, .slice none 0 0] from Box.new va2 _ _).below cc1 (by simp); have hbva3 := hidden b'; have zb := ((hbva2.out.alloc hbva2.out.size (.cells #[.slice none 0 0, .slice none 0 0, .bool false, .slice none 0 0] 57))).size; have zc := cc1.size; have zx := xo'.lt; have zj : (va2.alloc (.cells #[.slice none 0 0, .slice none 0 0, .bool false, .slice none 0 0] 57)).heap.size = va2.heap.size + 1 := (by simp); obtain ⟨s0, s1, s2, s3⟩ := xo'.cells4; have u0 := xo'.frozen 0; have u1 := xo'.frozen 1; have u2 := xo'.frozen 2; have u3 := xo'.frozen 3; have hbs := set4_but va3 (va2.heap.size) (.slice ya0 yl0 yc0) (.slice ya1 yl1 yc1) (.bool false) (.slice ya3 yl3 yc3); have zs := hbs.size; have zq := hbva2.out.size; have FHB := hidden (b'.trans (hbs.below (B := W.heap.size) (by omega) (by omega))); have FXB := hidden (set4_box xo' (.slice ya0 yl0 yc0) (.slice ya1 yl1 yc1) (.bool false) (.slice ya3 yl3 yc3)); have FOW := hidden (o.but hbs (.inr (by omega))); have FZ : Hid (W.heap.size ≤ va2.heap.size ∧ va2.heap.size < (set4 va3 (va2.heap.size) (.slice ya0 yl0 yc0) (.slice ya1 yl1 yc1) (.bool false) (.slice ya3 yl3 yc3)).heap.size ∧ (va2.heap.size < (va2.alloc (.cells #[.slice none 0 0, .slice none 0 0, .bool false, .slice none 0 0] 57)).heap.size ∨ va3.heap.size ≤ va2.heap.size) ∧ W.heap.size ≤ (va2.alloc (.cells #[.slice none 0 0, .slice none 0 0, .bool false, .slice none 0 0] 57)).heap.size ∧ va3.heap.size ≤ (set4 va3 (va2.heap.size) (.slice ya0 yl0 yc0) (.slice ya1 yl1 yc1) (.bool false) (.slice ya3 yl3 yc3)).heap.size) := (by unfold Hid; omega); unfold set4 at FHB FXB FOW FZ; clear cc cc1 b' xo' zb zc o zj zx hbs zs zq)
      )
    · generalize va3.alloc (.cells #[.slice ya0 yl0 yc0, .slice ya1 yl1 yc1, .bool false, .slice ya3 yl3 yc3] 57) = WN at FHB FXB FOW FZ ⊢
      generalize hBN : va3.heap.size = BN at FXB FZ FOW ⊢
      exact key.out BN WN xa xc ya0 yl0 yc0 ya1 yl1 yc1 ya3 yl3 yc3 ⟨FHB.out, FXB.out, _, _, FOW.out, by first | exact FZ.out | (have fz := FZ.out; have z1 := FHB.out.size; omega)⟩
    · generalize ((((va3).setCell ⟨va2.heap.size, 0, none⟩ (.slice ya0 yl0 yc0)).setCell ⟨va2.heap.size, 1, none⟩ (.slice ya1 yl1 yc1)).setCell ⟨va2.heap.size, 2, none⟩ (.bool false)).setCell ⟨va2.heap.size, 3, none⟩ (.slice ya3 yl3 yc3) = WN at FHB FXB FOW FZ ⊢
      generalize hBN : va2.heap.size = BN at FXB FZ FOW ⊢
      exact key.out BN WN xa xc ya0 yl0 yc0 ya1 yl1 yc1 ya3 yl3 yc3 ⟨FHB.out, FXB.out, _, _, FOW.out, by first | exact FZ.out | (have fz := FZ.out; have z1 := FHB.out.size; omega)⟩
    · generalize ((((va3).setCell ⟨va1.heap.size, 0, none⟩ (.slice ya0 yl0 yc0)).setCell ⟨va1.heap.size, 1, none⟩ (.slice ya1 yl1 yc1)).setCell ⟨va1.heap.size, 2, none⟩ (.bool false)).setCell ⟨va1.heap.size, 3, none⟩ (.slice ya3 yl3 yc3) = WN at FHB FXB FOW FZ ⊢
      generalize hBN : va1.heap.size = BN at FXB FZ FOW ⊢
      exact key.out BN WN xa xc ya0 yl0 yc0 ya1 yl1 yc1 ya3 yl3 yc3 ⟨FHB.out, FXB.out, _, _, FOW.out, by first | exact FZ.out | (have fz := FZ.out; have z1 := FHB.out.size; omega)⟩
    · generalize ((((va3).setCell ⟨W.heap.size, 0, none⟩ (.slice ya0 yl0 yc0)).setCell ⟨W.heap.size, 1, none⟩ (.slice ya1 yl1 yc1)).setCell ⟨W.heap.size, 2, none⟩ (.bool false)).setCell ⟨W.heap.size, 3, none⟩ (.slice ya3 yl3 yc3) = WN at FHB FXB FOW FZ ⊢
      generalize hBN : W.heap.size = BN at FXB FZ FOW ⊢
      exact key.out BN WN xa xc ya0 yl0 yc0 ya1 yl1 yc1 ya3 yl3 yc3 ⟨FHB.out, FXB.out, _, _, FOW.out, by first | exact FZ.out | (have fz := FZ.out; have z1 := FHB.out.size; omega)⟩
  case main1 =>
    rintro BO WF xa xc ya0 yl0 yc0 ya1 yl1 yc1 ya3 yl3 yc3 ⟨hb, xb, lo, hi, ow, zr1, zr2, zr3, zr4, zr5⟩
    have zW : w.heap.size + 1 < W.heap.size := zX
    have S0 : NewSt w n k P BO WF 0 := ⟨_, _, _, lo, hi, xb, ow, by omega, zr5, by omega, by omega, X0.below hb zX, G0.below hb zG, Below.andThen hA hb⟩
    obtain ⟨p0, p1⟩ := (G0.below hb zG).cells
    clear hb xb ow zr3 zr4 zr5 X0 G0 hA k0 k1
    go_wp2
    clear p0 p1
    go_loopw [22] (fun i wr => ∃ j : Nat, j ≤ k ∧ i = .int .i64 j ∧ NewSt w n k P BO wr j) (fun i _ => k - (intOf i).toNat)
    case atStart => exact ⟨0, Nat.zero_le _, rfl, S0⟩
    case round =>
      clear S0
      obtain ⟨j, hj, rfl, v0, v1, v3, lo2, hi2, xb, ob, r1, r2, r3, r4, xr, gb, hb⟩ := hrel
      obtain ⟨a0, l0, c0, a1, l1, c1, a3, l3, c3, hv0, hv1, hv3⟩ := mem_letters2 ob
      subst hv0 hv1 hv3
      have zb := xb.lt
      have zw := hb.size
      by_cases hjk : j < k
      · have i2 : (j : Int) < (k : Int) := by omega
        have xn := xb.alloc (.cells #[.int .i64 0] 3)
        have bn := new_below wr (.cells #[.int .i64 0] 3)
        have hS : wr.drew.cell? ⟨BO, 0, none⟩ = some (.slice a0 l0 c0) ∧ wr.drew.cell? ⟨BO, 1, none⟩ = some (.slice a1 l1 c1) ∧ wr.drew.cell? ⟨BO, 2, none⟩ = some (.bool false) ∧ wr.drew.cell? ⟨BO, 3, none⟩ = some (.slice a3 l3 c3) := xb.cells4
        have hS1 : (wr.alloc (.cells #[.int .i64 0] 3)).drew.cell? ⟨BO, 0, none⟩ = some (.slice a0 l0 c0) ∧ (wr.alloc (.cells #[.int .i64 0] 3)).drew.cell? ⟨BO, 1, none⟩ = some (.slice a1 l1 c1) ∧ (wr.alloc (.cells #[.int .i64 0] 3)).drew.cell? ⟨BO, 2, none⟩ = some (.bool false) ∧ (wr.alloc (.cells #[.int .i64 0] 3)).drew.cell? ⟨BO, 3, none⟩ = some (.slice a3 l3 c3) := xn.cells4
        have OB := hidden (ob.below bn)
        have XB := hidden xn
        have XR := hidden (xr.below bn (by omega))
        have GB := hidden (gb.below bn (by omega))
        have HB := hidden (hb.trans (bn.mono zw))
        have RL : Hid (tIntS.Rd (wr.alloc (.cells #[.int .i64 0] 3)) [.slice (some ⟨wr.heap.size, 0, none⟩) 1 1] [0]) := (own_ints (Owns.lit .i64 3 wr [0] 1 #[.int .i64 0] rfl rfl (by unfold maxLen; omega))).rd
        have HWT := hidden (new_wt (j := j) HP.out hk8 hj)
        have HNW := hidden (new_write HP.out hk8 hjk)
        have zn : (wr.alloc (.cells #[.int .i64 0] 3)).heap.size = wr.heap.size + 1 := by simp
        clear xb ob xr gb hb xn bn
        go_wp2_with fail
        refine Late.start (S := fun w' => w'.cell? ⟨BO, 0, none⟩ = some (.slice a0 l0 c0) ∧ w'.cell? ⟨BO, 1, none⟩ = some (.slice a1 l1 c1) ∧ w'.cell? ⟨BO, 2, none⟩ = some (.bool false) ∧ w'.cell? ⟨BO, 3, none⟩ = some (.slice a3 l3 c3)) (k := 8) (by kernel_rfl) ?_
        refine Late.take (i := 0) (v := ?_) rfl (by kernel_rfl) (by kernel_rfl) (by kernel_rfl) (by kernel_rfl) (fun _ _ _ h => h) (Or.inl ⟨by rfl, ?_⟩) hS ?_
        rotate_left 1
        · (intro w hSw; (try dsimp only at hSw); go_split_ands; go_simp; first | done | with_reducible rfl)
        simp only [Act.put, List.setIfInBounds_toArray, List.set_cons_zero, List.set_cons_succ]
        refine Late.take (i := 1) (v := ?_) rfl (by kernel_rfl) (by kernel_rfl) (by kernel_rfl) (by kernel_rfl) (fun _ _ _ h => h) (Or.inl ⟨by rfl, ?_⟩) hS ?_
        rotate_left 1
        · (intro w hSw; (try dsimp only at hSw); go_split_ands; go_simp; first | done | with_reducible rfl)
        simp only [Act.put, List.setIfInBounds_toArray, List.set_cons_zero, List.set_cons_succ]
        refine Late.two (i := 2) (i' := 3) (by kernel_rfl) rfl rfl (fun K hK => ?_) (fun K hK => ?_)
        · go_simp
          refine (implDataAt_any _ _).mono ?_
          rintro e w5 ⟨rfl, h5⟩
          subst h5
          go_wp2_with fail
          refine hK.out _ _ (fun _ => hS) ?_
          clear hK K
          refine Late.one (i := 3) (by kernel_rfl) rfl (fun K hK => ?_)
          go_simp
          refine hK.out _ _ (fun _ => hS1) ?_
          clear hK K
          refine Late.one (i := 4) (by kernel_rfl) rfl (fun K hK => ?_)
          go_simp
          obtain ⟨p0, p1, p3⟩ := mem_parts OB.out
          refine (implWriteSec_any _ 100 _ _ _ _ _ _ _ _ _ _ _ _ (newSS (6 + (k : Int))) (newCS P j) false [] (dataN (j : Int)) [0] p0.drew p1.drew p3.drew RL.out.drew HWT.out (by omega)).mono ?_
          rintro e w7 ⟨u0, u1, u3, rfl, o7, hb7'⟩
          have hb7 : Below (wr.alloc (.cells #[.int .i64 0] 3)).heap.size (wr.alloc (.cells #[.int .i64 0] 3)) w7 := (Below.refl _ _).drew.trans hb7'
          have zd : (wr.alloc (.cells #[.int .i64 0] 3)).drew.heap.size = (wr.alloc (.cells #[.int .i64 0] 3)).heap.size := rfl
          rw [HNW.out.1, HNW.out.2, zd] at o7
          obtain ⟨d0, k0, f0, d1, k1, f1, d3, k3, f3, hv0, hv1, hv3⟩ := mem_letters2 o7
          subst hv0 hv1 hv3
          have z7 := hb7.size
          have xb7 := XB.out.below hb7 (by omega)
          have RN := hidden (new_next xb7 o7 (by omega) (Nat.le_refl _) (.inr (by omega)) r4 (XR.out.below hb7 (by omega)) (GB.out.below hb7 (by omega)) (HB.out.trans (hb7.mono (by omega))))
          unfold set4 at RN
          have hS7 : w7.cell? ⟨BO, 0, none⟩ = some (.slice a0 l0 c0) ∧ w7.cell? ⟨BO, 1, none⟩ = some (.slice a1 l1 c1) ∧ w7.cell? ⟨BO, 2, none⟩ = some (.bool false) ∧ w7.cell? ⟨BO, 3, none⟩ = some (.slice a3 l3 c3) := xb7.cells4
          obtain ⟨q0, q1, q2, q3⟩ := xb7.cells4
          have fz := xb7.frozen
          clear o7 hb7 hb7' xb7 p0 p1 p3 OB XB XR GB HB RL HWT HNW zd
          go_wp2_with fail
          refine hK.out _ _ (fun _ => hS7) ?_
          clear hK K
          refine Late.take (i := 5) (v := ?_) rfl (by kernel_rfl) (by kernel_rfl) (by kernel_rfl) (by kernel_rfl) (fun _ _ _ h => h) (Or.inl ⟨by rfl, ?_⟩) hS7 ?_
          rotate_left 1
          · (intro w hSw; (try dsimp only at hSw); go_split_ands; go_simp; first | done | with_reducible rfl)
          simp only [Act.put, List.setIfInBounds_toArray, List.set_cons_zero, List.set_cons_succ]
          refine Late.take (i := 6) (v := ?_) rfl (by kernel_rfl) (by kernel_rfl) (by kernel_rfl) (by kernel_rfl) (fun _ _ _ h => h) (Or.inl ⟨by rfl, ?_⟩) hS7 ?_
          rotate_left 1
          · (intro w hSw; (try dsimp only at hSw); go_split_ands; go_simp; first | done | with_reducible rfl)
          simp only [Act.put, List.setIfInBounds_toArray, List.set_cons_zero, List.set_cons_succ]
          refine Late.two (i := 7) (i' := 8) (by kernel_rfl) rfl rfl (fun K hK => ?_) (fun K hK => ?_)
          · go_simp
            refine hK.out _ _ (fun _ => hS7) ?_
            clear hK K
            refine Late.one (i := 8) (by kernel_rfl) rfl (fun K hK => ?_)
            go_simp
            refine hK.out _ _ (fun h => absurd rfl h) ?_
            clear hK K
            refine Late.done (by kernel_rfl) ?_ _
            go_wp2
            go_roundw
            case rel => exact ⟨j + 1, by omega, by go_num, RN.out⟩
            case measure => simp [intOf]; omega
          · go_simp
            refine hK.out _ _ (fun h => absurd rfl h) ?_
            clear hK K
            refine Late.late (i := 7) (by kernel_rfl) rfl (by kernel_rfl) (fun K hK => ?_)
            go_simp
            refine hK.out _ _ ?_
            clear hK K
            refine Late.done (by kernel_rfl) ?_ _
            go_wp2
            go_roundw
            case rel => exact ⟨j + 1, by omega, by go_num, RN.out⟩
            case measure => simp [intOf]; omega
        · go_simp
          refine hK.out _ _ (fun _ => hS1) ?_
          clear hK K
          refine Late.one (i := 2) (by kernel_rfl) rfl (fun K hK => ?_)
          go_simp
          refine (implDataAt_any _ _).mono ?_
          rintro e w5 ⟨rfl, h5⟩
          subst h5
          go_wp2_with fail
          refine hK.out _ _ (fun _ => hS1) ?_
          clear hK K
          refine Late.one (i := 4) (by kernel_rfl) rfl (fun K hK => ?_)
          go_simp
          obtain ⟨p0, p1, p3⟩ := mem_parts OB.out
          refine (implWriteSec_any _ 100 _ _ _ _ _ _ _ _ _ _ _ _ (newSS (6 + (k : Int))) (newCS P j) false [] (dataN (j : Int)) [0] p0.drew p1.drew p3.drew RL.out.drew HWT.out (by omega)).mono ?_
          rintro e w7 ⟨u0, u1, u3, rfl, o7, hb7'⟩
          have hb7 : Below (wr.alloc (.cells #[.int .i64 0] 3)).heap.size (wr.alloc (.cells #[.int .i64 0] 3)) w7 := (Below.refl _ _).drew.trans hb7'
          have zd : (wr.alloc (.cells #[.int .i64 0] 3)).drew.heap.size = (wr.alloc (.cells #[.int .i64 0] 3)).heap.size := rfl
          rw [HNW.out.1, HNW.out.2, zd] at o7
          obtain ⟨d0, k0, f0, d1, k1, f1, d3, k3, f3, hv0, hv1, hv3⟩ := mem_letters2 o7
          subst hv0 hv1 hv3
          have z7 := hb7.size
          have xb7 := XB.out.below hb7 (by omega)
          have RN := hidden (new_next xb7 o7 (by omega) (Nat.le_refl _) (.inr (by omega)) r4 (XR.out.below hb7 (by omega)) (GB.out.below hb7 (by omega)) (HB.out.trans (hb7.mono (by omega))))
          unfold set4 at RN
          have hS7 : w7.cell? ⟨BO, 0, none⟩ = some (.slice a0 l0 c0) ∧ w7.cell? ⟨BO, 1, none⟩ = some (.slice a1 l1 c1) ∧ w7.cell? ⟨BO, 2, none⟩ = some (.bool false) ∧ w7.cell? ⟨BO, 3, none⟩ = some (.slice a3 l3 c3) := xb7.cells4
          obtain ⟨q0, q1, q2, q3⟩ := xb7.cells4
          have fz := xb7.frozen
          clear o7 hb7 hb7' xb7 p0 p1 p3 OB XB XR GB HB RL HWT HNW zd
          go_wp2_with fail
          refine hK.out _ _ (fun _ => hS7) ?_
          clear hK K
          refine Late.take (i := 5) (v := ?_) rfl (by kernel_rfl) (by kernel_rfl) (by kernel_rfl) (by kernel_rfl) (fun _ _ _ h => h) (Or.inl ⟨by rfl, ?_⟩) hS7 ?_
          rotate_left 1
          · (intro w hSw; (try dsimp only at hSw); go_split_ands; go_simp; first | done | with_reducible rfl)
          simp only [Act.put, List.setIfInBounds_toArray, List.set_cons_zero, List.set_cons_succ]
          refine Late.take (i := 6) (v := ?_) rfl (by kernel_rfl) (by kernel_rfl) (by kernel_rfl) (by kernel_rfl) (fun _ _ _ h => h) (Or.inl ⟨by rfl, ?_⟩) hS7 ?_
          rotate_left 1
          · (intro w hSw; (try dsimp only at hSw); go_split_ands; go_simp; first | done | with_reducible rfl)
          simp only [Act.put, List.setIfInBounds_toArray, List.set_cons_zero, List.set_cons_succ]
          refine Late.two (i := 7) (i' := 8) (by kernel_rfl) rfl rfl (fun K hK => ?_) (fun K hK => ?_)
          · go_simp
            refine hK.out _ _ (fun _ => hS7) ?_
            clear hK K
            refine Late.one (i := 8) (by kernel_rfl) rfl (fun K hK => ?_)
            go_simp
            refine hK.out _ _ (fun h => absurd rfl h) ?_
            clear hK K
            refine Late.done (by kernel_rfl) ?_ _
            go_wp2
            go_roundw
            case rel => exact ⟨j + 1, by omega, by go_num, RN.out⟩
            case measure => simp [intOf]; omega
          · go_simp
            refine hK.out _ _ (fun h => absurd rfl h) ?_
            clear hK K
            refine Late.late (i := 7) (by kernel_rfl) rfl (by kernel_rfl) (fun K hK => ?_)
            go_simp
            refine hK.out _ _ ?_
            clear hK K
            refine Late.done (by kernel_rfl) ?_ _
            go_wp2
            go_roundw
            case rel => exact ⟨j + 1, by omega, by go_num, RN.out⟩
            case measure => simp [intOf]; omega
      · have ej : j = k := by omega
        subst ej
        obtain ⟨q0, q1, q2, q3⟩ := xb.cells4
        have HF := hidden (new_flush HP.out hk8)
        have hwt := new_wt (j := j) HP.out hk8 (Nat.le_refl _)
        obtain ⟨p0, p1, p3⟩ := mem_parts ob
        go_wp2_with fail
        refine (implFlushMem_any _ 100 _ _ _ _ _ _ _ _ _ (newSS (6 + (j : Int))) (newCS P j) false [] p0 p1 p3 hwt).mono ?_
        rintro e w8 ⟨u0, u1, u3, rfl, o8, b8⟩
        rw [HF.out.1, HF.out.2] at o8
        obtain ⟨d0, k0, f0, d1, k1, f1, d3, k3, f3, hv0, hv1, hv3⟩ := mem_letters2 o8
        subst hv0 hv1 hv3
        have x8 := xr.below b8 (by omega)
        obtain ⟨s0, s1, s2, s3⟩ := x8.cells4
        have fz := x8.frozen
        have hbt := set4_but w8 (w.heap.size + 1) (.slice d0 k0 f0) (.slice d1 k1 f1) (.bool false) (.slice d3 k3 f3)
        have z8 := b8.size
        have zt := hbt.size
        have FO := hidden ((o8.but hbt (.inr (by omega))).widen (lo' := w.heap.size) (hi' := (set4 w8 (w.heap.size + 1) (.slice d0 k0 f0) (.slice d1 k1 f1) (.bool false) (.slice d3 k3 f3)).heap.size) (by omega) hbt.size)
        have FB := hidden (Below.andBut (hb.trans (b8.mono zw)) hbt (by omega))
        unfold set4 at FO FB
        clear hbt o8 b8 x8 xb ob xr gb hb p0 p1 p3 q0 q1 q2 q3 zt
        go_wp2
        refine bodyPost_ret (v := .agg #[.slice d0 k0 f0, .slice d1 k1 f1, .bool false, .slice d3 k3 f3]) (by simp [results, Try.results35, go_sem, s0, s1, s2, s3]) rfl ?_
        exact ⟨_, _, _, rfl, FO.out, FB.out⟩

end Go.Proofs.Ytgjldmjlbhkgbaa

/-
  The walk of the program's ArrNew: a new array in memory of its own. No condition.
-/
namespace Go.Proofs.Ytgjldmjlbhkgbaa
open Go.RowKit

theorem new_no {id n s : Int} (h : newB id n s = false) : newX id n s = ⟨0, 0, 0, 0, 0, 0, 0, 0, 0, false, false⟩ ∧ newAM id n s = [] := by
  unfold newX newAM
  rw [if_neg (by simp [h]), if_neg (by simp [h])]
  exact ⟨rfl, rfl⟩
theorem new_yes {id n s : Int} (h : newB id n s = true) : newX id n s = ⟨id, n, s, -1, 0, 0, 0, 0, -1, false, false⟩ ∧ newAM id n s = newMS id n s n.toNat := by
  unfold newX newAM
  rw [if_pos h, if_pos h]
  exact ⟨rfl, rfl⟩
theorem newMD_nat (id n : Int) (k i : Nat) : newMD id n (k : Int) i = (newPD (putD (newSup id n (k : Int) (i : Int))) k k, [], false, []) := by unfold newMD; rw [Int.toNat_natCast]

set_option linter.unusedSimpArgs false in
set_option maxRecDepth 20000 in
set_option maxHeartbeats 4000000 in
theorem implArrNew_any (w : World) (id n s : Int) :
    Calls Try.prog 11 #[.int .i64 id, .agg #[.int .i64 n, .int .i64 s]] w fun e w' => ∃ am cm, e = .returned (.agg #[.int .i64 (newX id n s).id, .int .i64 (newX id n s).n, .int .i64 (newX id n s).s, .slice am (newAM id n s).length cm, .int .i64 (newX id n s).lost, .int .i64 (newX id n s).built, .int .i64 (newX id n s).seq, .int .i64 (newX id n s).tail, .int .i64 (newX id n s).gen, .slice none 0 0, .int .i64 (newX id n s).fuse, .bool (newX id n s).down, .bool (newX id n s).broken]) ∧ (tMemS 100 57).Own w' w.heap.size w'.heap.size [.slice am (newAM id n s).length cm] (newAM id n s) ∧ Below w.heap.size w w' := by
  obtain ⟨i4, hi4, hz0, hz1, hz2⟩ := info_parts Try.infoMem
  have hA := (new_below w (.cells #[.int .i64 n, .int .i64 s] 24)).alloc (by simp) (.cells #[.int .i64 0, .int .i64 0, .int .i64 0, .slice none 0 0, .int .i64 0, .int .i64 0, .int .i64 0, .int .i64 0, .int .i64 0, .slice none 0 0, .int .i64 0, .bool false, .bool false] 28)
  have G0 : Gbox ((w.alloc (.cells #[.int .i64 n, .int .i64 s] 24)).alloc (.cells #[.int .i64 0, .int .i64 0, .int .i64 0, .slice none 0 0, .int .i64 0, .int .i64 0, .int .i64 0, .int .i64 0, .int .i64 0, .slice none 0 0, .int .i64 0, .bool false, .bool false] 28)) w.heap.size 24 n s := (Gbox.new w 24 n s).below (new_below _ _) (by simp)
  have X0 := Box.new (w.alloc (.cells #[.int .i64 n, .int .i64 s] 24)) 28 #[.int .i64 0, .int .i64 0, .int .i64 0, .slice none 0 0, .int .i64 0, .int .i64 0, .int .i64 0, .int .i64 0, .int .i64 0, .slice none 0 0, .int .i64 0, .bool false, .bool false]
  rw [World.size_alloc] at X0
  have zG := G0.lt
  have zX := X0.lt
  obtain ⟨q0, q1⟩ := G0.cells
  go_enter Try.func11, Try.ntmps11
  go_wp2_with fail
  generalize (w.alloc (.cells #[.int .i64 n, .int .i64 s] 24)).alloc (.cells #[.int .i64 0, .int .i64 0, .int .i64 0, .slice none 0 0, .int .i64 0, .int .i64 0, .int .i64 0, .int .i64 0, .int .i64 0, .slice none 0 0, .int .i64 0, .bool false, .bool false] 28) = W at hA G0 X0 zG zX q0 q1 ⊢
  refine (implGeoOk_any _ _ _).mono ?_
  rintro e w1 ⟨rfl, b1⟩
  have B1 := Below.andThen hA b1
  have G1 := G0.below b1 zG
  have X1 := X0.below b1 zX
  have z1 := b1.size
  clear q0 q1 hA G0 X0 b1
  cases hg : geoB n s
  · have HZ := hidden (new_no (id := id) (n := n) (s := s) (by unfold newB; rw [hg]; rfl))
    obtain ⟨p0, p1, p2, p3, p4, p5, p6, p7, p8, p9, p10, p11, p12⟩ := X1.cells13
    have fz := X1.frozen
    have hbt := puts_but (w.heap.size + 1) [(0, .int .i64 0), (1, .int .i64 0), (2, .int .i64 0), (3, .slice none 0 0), (4, .int .i64 0), (5, .int .i64 0), (6, .int .i64 0), (7, .int .i64 0), (8, .int .i64 0), (9, .slice none 0 0), (10, .int .i64 0), (11, .bool false), (12, .bool false)] w1
    have FB := hidden (Below.andBut B1 hbt (by omega))
    simp only [puts] at FB
    clear hbt X1 G1 B1
    go_wp2
    refine bodyPost_ret (v := .agg #[.int .i64 0, .int .i64 0, .int .i64 0, .slice none 0 0, .int .i64 0, .int .i64 0, .int .i64 0, .int .i64 0, .int .i64 0, .slice none 0 0, .int .i64 0, .bool false, .bool false]) (by simp [results, Try.results11, go_sem, p0, p1, p2, p3, p4, p5, p6, p7, p8, p9, p10, p11, p12]) rfl ?_
    exact ⟨none, 0, by rw [HZ.out.1, HZ.out.2]; rfl, by rw [HZ.out.2]; exact nil_own _ _ _, FB.out⟩
  · go_wp2_with fail
    refine (within_any _ _ _ _).mono ?_
    rintro e wq ⟨rfl, hq⟩
    obtain rfl := hq.symm
    cases hid : inB id 1 60000
    · have HZ := hidden (new_no (id := id) (n := n) (s := s) (by unfold newB; rw [hg, hid]; rfl))
      obtain ⟨p0, p1, p2, p3, p4, p5, p6, p7, p8, p9, p10, p11, p12⟩ := X1.cells13
      have fz := X1.frozen
      have hbt := puts_but (w.heap.size + 1) [(0, .int .i64 0), (1, .int .i64 0), (2, .int .i64 0), (3, .slice none 0 0), (4, .int .i64 0), (5, .int .i64 0), (6, .int .i64 0), (7, .int .i64 0), (8, .int .i64 0), (9, .slice none 0 0), (10, .int .i64 0), (11, .bool false), (12, .bool false)] w1
      have FB := hidden (Below.andBut B1 hbt (by omega))
      simp only [puts] at FB
      clear hbt X1 G1 B1
      go_wp2
      refine bodyPost_ret (v := .agg #[.int .i64 0, .int .i64 0, .int .i64 0, .slice none 0 0, .int .i64 0, .int .i64 0, .int .i64 0, .int .i64 0, .int .i64 0, .slice none 0 0, .int .i64 0, .bool false, .bool false]) (by simp [results, Try.results11, go_sem, p0, p1, p2, p3, p4, p5, p6, p7, p8, p9, p10, p11, p12]) rfl ?_
      exact ⟨none, 0, by rw [HZ.out.1, HZ.out.2]; rfl, by rw [HZ.out.2]; exact nil_own _ _ _, FB.out⟩
    · have HY := hidden (new_yes (id := id) (n := n) (s := s) (by unfold newB; rw [hg, hid]; rfl))
      obtain ⟨g1, g2, g3, g4⟩ := geoB_iff.1 hg
      obtain ⟨k, rfl⟩ : ∃ k : Nat, s = (k : Int) := ⟨s.toNat, by omega⟩
      obtain ⟨N, rfl⟩ : ∃ N : Nat, n = (N : Int) := ⟨n.toNat, by omega⟩
      have HG := hidden hg
      have HID := hidden hid
      clear hg hid
      have bn := new_below w1 (.cells #[.int .i64 id, .int .i64 (N : Int), .int .i64 (k : Int), .slice none 0 0, .int .i64 (-1), .int .i64 0, .int .i64 0, .int .i64 0, .int .i64 0, .slice none 0 0, .int .i64 (-1), .bool false, .bool false] 28)
      have zn : (w1.alloc (.cells #[.int .i64 id, .int .i64 (N : Int), .int .i64 (k : Int), .slice none 0 0, .int .i64 (-1), .int .i64 0, .int .i64 0, .int .i64 0, .int .i64 0, .slice none 0 0, .int .i64 (-1), .bool false, .bool false] 28)).heap.size = w1.heap.size + 1 := by simp
      have G2 := G1.below bn (by omega)
      have X2 := X1.below bn (by omega)
      have Y2 := Box.new w1 28 #[.int .i64 id, .int .i64 (N : Int), .int .i64 (k : Int), .slice none 0 0, .int .i64 (-1), .int .i64 0, .int .i64 0, .int .i64 0, .int .i64 0, .slice none 0 0, .int .i64 (-1), .bool false, .bool false]
      have B2 := Below.andThen B1 bn
      obtain ⟨q0, q1⟩ := G1.cells
      obtain ⟨r0, r1⟩ := G2.cells
      clear G1 X1 B1 bn
      go_wp2
      generalize w1.alloc (.cells #[.int .i64 id, .int .i64 (N : Int), .int .i64 (k : Int), .slice none 0 0, .int .i64 (-1), .int .i64 0, .int .i64 0, .int .i64 0, .int .i64 0, .slice none 0 0, .int .i64 (-1), .bool false, .bool false] 28) = W2 at zn G2 X2 Y2 B2 r0 r1 ⊢
      obtain ⟨BO, hBO⟩ : ∃ BO, w1.heap.size = BO := ⟨_, rfl⟩
      rw [hBO] at zn Y2 z1 ⊢
      clear hBO q0 q1 r0 r1
      obtain ⟨LB, hLB⟩ : ∃ LB, W2.heap.size = LB := ⟨_, rfl⟩
      have zLB : LB ≤ BO + 1 ∧ BO + 1 ≤ LB ∧ LB ≤ W2.heap.size ∧ W2.heap.size ≤ LB := by omega
      clear hLB zn
      have XR2 := hidden X2
      have XO2 := hidden Y2
      have GB2 := hidden G2
      have HB2 := hidden B2
      clear X2 Y2 G2 B2
      go_loopw [21] (fun i wr => ∃ (j : Nat) (v0 : Value) (fp0 : List Nat), j ≤ N ∧ i = .int .i64 j ∧ Fr LB BO W2 wr ∧ Box wr BO 28 #[.int .i64 id, .int .i64 (N : Int), .int .i64 (k : Int), v0, .int .i64 (-1), .int .i64 0, .int .i64 0, .int .i64 0, .int .i64 0, .slice none 0 0, .int .i64 (-1), .bool false, .bool false] ∧ (tMemS 100 57).Mine wr [v0] (newMS id (N : Int) (k : Int) j) fp0 ∧ (∀ b ∈ fp0, LB ≤ b)) (fun i _ => N - (intOf i).toNat)
      case atStart => exact ⟨0, _, [], Nat.zero_le _, rfl, Fr.refl _ _ _, XO2.out, nil_mine _, by simp⟩
      case round =>
        obtain ⟨j, v0, fp0, hj, rfl, fr, xo, hm, hfp⟩ := hrel
        have hs := fr.size
        have hb := HB2.out.trans (fr.below (M := w.heap.size) (by omega) (by omega))
        have gb : Gbox wr w.heap.size 24 (N : Int) (k : Int) := (fr.block _ (by omega) (by omega)).trans GB2.out
        by_cases hjn : j < N
        · have k2 : (j : Int) < (N : Int) := by omega
          have HTK := hidden (newMS_succ id (N : Int) (k : Int) j)
          rw [newMD_nat] at HTK
          have HL := hidden (newMS_len id (N : Int) (k : Int) j)
          have XO := hidden xo
          have GBR := hidden gb
          have FRR := hidden fr
          have HM := hidden hm
          have HFP := hidden hfp
          have L1 : Hid ((newMS id (N : Int) (k : Int) j).length + 1 ≤ maxLen) := by unfold Hid; rw [HL.out]; unfold maxLen; omega
          have L2 : Hid (((newMS id (N : Int) (k : Int) j).length + 1) * 80 ≤ 140737488355328) := by unfold Hid; rw [HL.out]; omega
          have mk : Hid (∀ w', Box w' BO 28 #[.int .i64 id, .int .i64 (N : Int), .int .i64 (k : Int), v0, .int .i64 (-1), .int .i64 0, .int .i64 0, .int .i64 0, .int .i64 0, .slice none 0 0, .int .i64 (-1), .bool false, .bool false] → Gbox w' w.heap.size 24 (N : Int) (k : Int) → w'.cell? ⟨BO, 3, none⟩ = some (v0) ∧ w'.cell? ⟨w.heap.size, 0, none⟩ = some (.int .i64 (N : Int)) ∧ w'.cell? ⟨w.heap.size, 1, none⟩ = some (.int .i64 (k : Int))) := fun w' h1 h2 => ⟨h1.cell 3, h2.cells.1, h2.cells.2⟩
          have hS : wr.drew.cell? ⟨BO, 3, none⟩ = some (v0) ∧ wr.drew.cell? ⟨w.heap.size, 0, none⟩ = some (.int .i64 (N : Int)) ∧ wr.drew.cell? ⟨w.heap.size, 1, none⟩ = some (.int .i64 (k : Int)) := mk.out wr.drew xo gb
          have zLw : LB ≤ wr.heap.size := by omega
          clear xo hm hfp hb fr gb
          go_wp2_with fail
          refine Upto.start (S := fun w' => w'.cell? ⟨BO, 3, none⟩ = some (v0) ∧ w'.cell? ⟨w.heap.size, 0, none⟩ = some (.int .i64 (N : Int)) ∧ w'.cell? ⟨w.heap.size, 1, none⟩ = some (.int .i64 (k : Int))) (k := 9) (by kernel_rfl) ?_
          refine Upto.take (i := 0) (v := ?_) rfl (by kernel_rfl) (by kernel_rfl) (by kernel_rfl) (by kernel_rfl) (fun _ _ _ h => h) (Or.inl ⟨by rfl, ?_⟩) hS ?_
          rotate_left 1
          · (intro w hSw; (try dsimp only at hSw); go_split_ands; go_simp; first | done | with_reducible rfl)
          simp only [Act.put, List.setIfInBounds_toArray, List.set_cons_zero, List.set_cons_succ]
          refine Upto.take (i := 1) (v := ?_) rfl (by kernel_rfl) (by kernel_rfl) (by kernel_rfl) (by kernel_rfl) (fun _ _ _ h => h) (Or.inl ⟨by rfl, ?_⟩) hS ?_
          rotate_left 1
          · (intro w hSw; (try dsimp only at hSw); go_split_ands; go_simp; first | done | with_reducible rfl)
          simp only [Act.put, List.setIfInBounds_toArray, List.set_cons_zero, List.set_cons_succ]
          refine Upto.take (i := 2) (v := ?_) rfl (by kernel_rfl) (by kernel_rfl) (by kernel_rfl) (by kernel_rfl) (fun _ _ _ h => h) (Or.inl ⟨by rfl, ?_⟩) hS ?_
          rotate_left 1
          · (intro w hSw; (try dsimp only at hSw); go_split_ands; go_simp; first | done | with_reducible rfl)
          simp only [Act.put, List.setIfInBounds_toArray, List.set_cons_zero, List.set_cons_succ]
          refine Upto.take (i := 3) (v := ?_) rfl (by kernel_rfl) (by kernel_rfl) (by kernel_rfl) (by kernel_rfl) (fun _ _ _ h => h) (Or.inl ⟨by rfl, ?_⟩) hS ?_
          rotate_left 1
          · (intro w hSw; (try dsimp only at hSw); go_split_ands; go_simp; first | done | with_reducible rfl)
          simp only [Act.put, List.setIfInBounds_toArray, List.set_cons_zero, List.set_cons_succ]
          refine Upto.take (i := 4) (v := ?_) rfl (by kernel_rfl) (by kernel_rfl) (by kernel_rfl) (by kernel_rfl) (fun _ _ _ h => h) (Or.inl ⟨by rfl, ?_⟩) hS ?_
          rotate_left 1
          · (intro w hSw; (try dsimp only at hSw); go_split_ands; go_simp; first | done | with_reducible rfl)
          simp only [Act.put, List.setIfInBounds_toArray, List.set_cons_zero, List.set_cons_succ]
          refine Upto.one (i := 5) (by kernel_rfl) rfl (fun K hK => ?_)
          go_simp
          refine (newMem_any _ id (N : Int) (j : Int) k HG.out HID.out (by omega) k2).mono ?_
          rintro e wc ⟨y0, y1, y3, rfl, om, bc⟩
          have hbc' : Below wr.heap.size wr wc := (Below.refl wr.heap.size wr).drew.trans bc
          have om2 : (tMem 100).Own wc wr.heap.size wc.heap.size [y0, y1, .bool false, y3] _ := om
          obtain ⟨d0, k0, f0, d1, k1, f1, d3, k3, f3, hv0, hv1, hv3⟩ := mem_letters2 om2
          subst hv0 hv1 hv3
          obtain ⟨fpx, mx, rx⟩ := om2.mine
          have xoc := XO.out.below hbc' (by omega)
          have gbc := GBR.out.below hbc' (by omega)
          have hS3 : wc.cell? ⟨BO, 3, none⟩ = some (v0) ∧ wc.cell? ⟨w.heap.size, 0, none⟩ = some (.int .i64 (N : Int)) ∧ wc.cell? ⟨w.heap.size, 1, none⟩ = some (.int .i64 (k : Int)) := mk.out wc xoc gbc
          have zc := hbc'.size
          have hS4 : (wc.alloc (.cells #[.slice d0 k0 f0, .slice d1 k1 f1, .bool false, .slice d3 k3 f3] 57)).cell? ⟨BO, 3, none⟩ = some (v0) ∧ (wc.alloc (.cells #[.slice d0 k0 f0, .slice d1 k1 f1, .bool false, .slice d3 k3 f3] 57)).cell? ⟨w.heap.size, 0, none⟩ = some (.int .i64 (N : Int)) ∧ (wc.alloc (.cells #[.slice d0 k0 f0, .slice d1 k1 f1, .bool false, .slice d3 k3 f3] 57)).cell? ⟨w.heap.size, 1, none⟩ = some (.int .i64 (k : Int)) := mk.out _ (xoc.alloc _) (gbc.below (new_below _ _) gbc.lt)
          have XOC := hidden xoc
          have GBC := hidden gbc
          have MX := hidden mx
          have RX := hidden rx
          have HBC := hidden hbc'
          clear xoc gbc mx rx hbc' bc om om2
          go_wp2_with fail
          refine hK.out _ _ (fun _ => hS3) ?_
          clear hK K
          refine Upto.one (i := 6) (by kernel_rfl) rfl (fun K hK => ?_)
          go_simp
          refine hK.out _ _ (fun _ => hS4) ?_
          clear hK K
          refine Upto.one (i := 7) (by kernel_rfl) rfl (fun K hK => ?_)
          refine step_appT (tMem 100) (by rfl) _ _ 25 (by rfl) 57 i4 (.agg #[.slice none 0 0, .slice none 0 0, .bool false, .slice none 0 0]) 80 Try.underlying25 hi4 hz0 hz1 hz2 rfl (by decide) v0 (newMS id (N : Int) (k : Int) j) fp0 (by rfl) ?_ ⟨wc.heap.size, 0, none⟩ 1 [.slice d0 k0 f0, .slice d1 k1 f1, .bool false, .slice d3 k3 f3] (newPD (putD (newSup id (N : Int) (k : Int) (j : Int))) k k, [], false, []) fpx (by rfl) ?_ ?_ ?_ ?_ L1.out L2.out ?_
          · exact (HM.out.below HBC.out).alloc _
          · exact MX.out.alloc _
          · intro b hb hb'
            have h1 := HM.out.lt b hb
            have h2 := RX.out b hb'
            omega
          · exact news_new _ _ _
          · intro u hu
            simp at hu
            rcases hu with hu | hu | hu | hu <;> (rw [hu]; rfl)
          intro g cap wA fpA m1 m2 m3
          rw [HL.out] at m1 ⊢
          rw [← HTK.out] at m1
          have ya := (XOC.out.alloc (.cells #[.slice d0 k0 f0, .slice d1 k1 f1, .bool false, .slice d3 k3 f3] 57)).turned m3 (fun hm => by have := HFP.out _ hm; omega)
          have zB : (wc.alloc (.cells #[.slice d0 k0 f0, .slice d1 k1 f1, .bool false, .slice d3 k3 f3] 57)).heap.size = wc.heap.size + 1 := by simp
          have ga : Gbox wA w.heap.size 24 (N : Int) (k : Int) := (m3.block _ (by omega) (fun hm => by have := HFP.out _ hm; omega)).trans (GBC.out.below (new_below _ _) GBC.out.lt)
          have hS5 : wA.cell? ⟨BO, 3, none⟩ = some (v0) ∧ wA.cell? ⟨w.heap.size, 0, none⟩ = some (.int .i64 (N : Int)) ∧ wA.cell? ⟨w.heap.size, 1, none⟩ = some (.int .i64 (k : Int)) := mk.out wA ya ga
          have rr0 := hS5.1
          have fz := ya.frozen 3
          have YA := hidden ya
          have M1 := hidden m1
          have M2 := hidden m2
          have M3 := hidden m3
          clear ya ga m1 m2 m3 zB
          refine hK.out _ _ (fun _ => hS5) ?_
          clear hK K
          simp only [Act.put, List.setIfInBounds_toArray, List.set_cons_zero, List.set_cons_succ]
          refine Upto.take (i := 8) (v := ?_) rfl (by kernel_rfl) (by kernel_rfl) (by kernel_rfl) (by kernel_rfl) (fun _ _ _ h => h) (Or.inl ⟨by rfl, ?_⟩) hS5 ?_
          rotate_left 1
          · (intro w hSw; (try dsimp only at hSw); go_split_ands; go_simp; first | done | with_reducible rfl)
          simp only [Act.put, List.setIfInBounds_toArray, List.set_cons_zero, List.set_cons_succ]
          refine Upto.one (i := 9) (by kernel_rfl) rfl (fun K hK => ?_)
          go_simp
          refine hK.out _ _ (fun h => absurd rfl h) ?_
          clear hK K
          refine Upto.done (by kernel_rfl) ?_ _
          have HFA := hidden (round_fp (N := LB) zLw HBC.out HFP.out RX.out M2.out)
          have FRA := hidden (Fr.round FRR.out zLw HBC.out _ M3.out HFP.out 3 (.slice (some ⟨g, 0, none⟩) (j + 1) cap))
          have MA := hidden (M1.out.setCell (g := BO) (j := 3) (fun hm => by have := HFA.out _ hm; omega) (.slice (some ⟨g, 0, none⟩) (j + 1) cap))
          have YA' := hidden (YA.out.set 3 (.slice (some ⟨g, 0, none⟩) (j + 1) cap))
          clear hS hS3 hS4 hS5 rr0 YA M1 M2 M3 XOC GBC MX RX HBC HFP HM FRR XO GBR mk
          go_wp2
          go_roundw
          case rel => exact ⟨j + 1, _, fpA, by omega, by go_num, FRA.out, YA'.out, MA.out, HFA.out⟩
          case measure => simp [intOf]; omega
        · have ej : j = N := by omega
          subst ej
          have hlt := hm.lt
          obtain ⟨eM, gM, hvM⟩ := row_shape hm.rd
          rw [newMS_len] at hvM
          subst hvM
          have KM := hm.own (lo := LB) (hi := wr.heap.size) (fun b hb => ⟨hfp b hb, hlt b hb⟩)
          have xr := fr.box XR2.out (by omega) (by omega)
          have hbt := puts_but (w.heap.size + 1) [(0, .int .i64 id), (1, .int .i64 (j : Int)), (2, .int .i64 (k : Int)), (3, .slice eM j gM), (4, .int .i64 (-1)), (5, .int .i64 0), (6, .int .i64 0), (7, .int .i64 0), (8, .int .i64 0), (9, .slice none 0 0), (10, .int .i64 (-1)), (11, .bool false), (12, .bool false)] wr
          have hsz := hbt.size
          have FO := hidden ((KM.but hbt (.inr (by omega))).widen (lo' := w.heap.size) (by omega) hsz)
          have FB := hidden (Below.andBut hb hbt (by omega))
          simp only [puts] at FO FB
          obtain ⟨p0, p1, p2, p3, p4, p5, p6, p7, p8, p9, p10, p11, p12⟩ := xr.cells13
          have fz := xr.frozen
          obtain ⟨r0, r1, r2, r3, r4, r5, r6, r7, r8, r9, r10, r11, r12⟩ := xo.cells13
          clear fr xo hb hm hfp hlt xr KM hbt hsz gb hj hs
          go_wp2
          refine bodyPost_ret (v := .agg #[.int .i64 id, .int .i64 (j : Int), .int .i64 (k : Int), .slice eM j gM, .int .i64 (-1), .int .i64 0, .int .i64 0, .int .i64 0, .int .i64 0, .slice none 0 0, .int .i64 (-1), .bool false, .bool false]) (by simp [results, Try.results11, go_sem, p0, p1, p2, p3, p4, p5, p6, p7, p8, p9, p10, p11, p12]) rfl ?_
          have hnl : (newMS id (j : Int) (k : Int) (j : Int).toNat).length = j := by rw [newMS_len]; simp
          exact ⟨eM, gM, by rw [HY.out.1, HY.out.2, hnl], by rw [HY.out.2, hnl, Int.toNat_natCast]; exact FO.out, FB.out⟩

end Go.Proofs.Ytgjldmjlbhkgbaa

/-
  An array that a pointer leads to, in memory of its own: its box, its disks and its entries by their blocks; how it moves from call to call. Plain lemmas. No condition.
-/
namespace Go.Proofs.Ytgjldmjlbhkgbaa
open Go.RowKit

/-- Four cells of a block, one behind the other. -/
def put4 (w : World) (g q : Nat) (v0 v1 v2 v3 : Value) : World := (((w.setCell ⟨g, q, none⟩ v0).setCell ⟨g, q + 1, none⟩ v1).setCell ⟨g, q + 2, none⟩ v2).setCell ⟨g, q + 3, none⟩ v3
theorem put4_other {w : World} {g q b : Nat} {v0 v1 v2 v3 : Value} (hb : b ≠ g) : (put4 w g q v0 v1 v2 v3).heap[b]? = w.heap[b]? := by
  unfold put4
  rw [Below.heap_setCell _ _ _ _ hb, Below.heap_setCell _ _ _ _ hb, Below.heap_setCell _ _ _ _ hb, Below.heap_setCell _ _ _ _ hb]
theorem put4_size (w : World) (g q : Nat) (v0 v1 v2 v3 : Value) : (put4 w g q v0 v1 v2 v3).heap.size = w.heap.size := by unfold put4; simp
theorem put4_turned (w : World) (g q : Nat) (v0 v1 v2 v3 : Value) : Turned [g] w (put4 w g q v0 v1 v2 v3) :=
  ⟨rfl, rfl, rfl, by rw [put4_size]; exact Nat.le_refl _, fun k _ hk => put4_other (by simpa using hk)⟩

/-- One element of a row of one's own is put in another's place. -/
theorem row_set4 {t : Ty} {E : TypeId} {w : World} {g n cap j : Nat} {d : List t.D} {v0 v1 v2 v3 : Value} {x : t.D} {fp f : List Nat} (ht : t.n = 4) (h : (rowTy t E).Mine w [.slice (some ⟨g, 0, none⟩) n cap] d fp)
    (hj : j < n) (hx : t.Mine w [v0, v1, v2, v3] x f) (hdis : ∀ b ∈ f, b ∉ fp) :
    (∀ q, q < 4 → ∃ old, w.cell? ⟨g, j * 4 + q, none⟩ = some old) ∧ (∀ q, w.frozen? ⟨g, q, none⟩ = false) ∧ g ∈ fp ∧ ∃ fp', (rowTy t E).Mine (put4 w g (j * 4) v0 v1 v2 v3) [.slice (some ⟨g, 0, none⟩) n cap] (d.set j x) fp' ∧ ∀ b ∈ fp', b ∈ fp ∨ b ∈ f := by
  obtain ⟨h, hn⟩ := h
  obtain ⟨hx, hn'⟩ := hx
  rcases h with ⟨h1, _⟩ | ⟨b, cap', cur, fps, h1, h2, h3, h4, h5, h6, h7, h8⟩
  · simp at h1
  · simp only [List.cons.injEq, Value.slice.injEq, Option.some.injEq, Addr.mk.injEq, and_true] at h1
    obtain ⟨rfl, rfl, rfl⟩ := h1
    have hgp : g ∈ fp := by rw [h6]; exact List.mem_cons_self
    rw [ht] at h5
    have hjc : j * 4 + 3 < cur.size := by rw [h5]; omega
    have hgf' : g ∉ f := fun hm => hdis g hm hgp
    rw [h6, List.nodup_cons] at hn
    obtain ⟨hgf, hnf⟩ := hn
    have hd2 : ∀ b ∈ f, b ∉ fps.flatten := fun b hb hbl => hdis b hb (by rw [h6]; exact List.mem_cons_of_mem _ hbl)
    obtain ⟨hsn, hsm⟩ := flatten_set_nodup fps j f hnf hn' hd2
    have hoth : ∀ b, b ≠ g → (put4 w g (j * 4) v0 v1 v2 v3).heap[b]? = w.heap[b]? := fun b hb => put4_other hb
    have hsz : w.heap.size ≤ (put4 w g (j * 4) v0 v1 v2 v3).heap.size := by rw [put4_size]; exact Nat.le_refl _
    have hcell : ∀ k, ((((cur.setIfInBounds (j * 4) v0).setIfInBounds (j * 4 + 1) v1).setIfInBounds (j * 4 + 2) v2).setIfInBounds (j * 4 + 3) v3).toList[k]? = if j * 4 ≤ k ∧ k < j * 4 + 4 then [v0, v1, v2, v3][k - j * 4]? else cur.toList[k]? := fun k => by
      rw [Array.toList_setIfInBounds, Array.toList_setIfInBounds, Array.toList_setIfInBounds, Array.toList_setIfInBounds]
      by_cases h0 : k = j * 4
      · subst h0
        rw [if_pos (by omega), List.getElem?_set_ne (by omega), List.getElem?_set_ne (by omega), List.getElem?_set_ne (by omega), List.getElem?_set_self (by simp; omega), Nat.sub_self]
        rfl
      · by_cases h1 : k = j * 4 + 1
        · subst h1
          rw [if_pos (by omega), List.getElem?_set_ne (by omega), List.getElem?_set_ne (by omega), List.getElem?_set_self (by simp; omega), Nat.add_sub_cancel_left]
          rfl
        · by_cases h2 : k = j * 4 + 2
          · subst h2
            rw [if_pos (by omega), List.getElem?_set_ne (by omega), List.getElem?_set_self (by simp; omega), Nat.add_sub_cancel_left]
            rfl
          · by_cases h3 : k = j * 4 + 3
            · subst h3
              rw [if_pos (by omega), List.getElem?_set_self (by simp; omega), Nat.add_sub_cancel_left]
              rfl
            · rw [if_neg (by omega), List.getElem?_set_ne (by omega), List.getElem?_set_ne (by omega), List.getElem?_set_ne (by omega), List.getElem?_set_ne (by omega)]
    refine ⟨fun q hq => ⟨cur[j * 4 + q]'(by omega), ?_⟩, fun q => frozen_of_row w g q cur E h4, hgp, g :: (fps.set j f).flatten, ⟨.inr ⟨g, cap, (((cur.setIfInBounds (j * 4) v0).setIfInBounds (j * 4 + 1) v1).setIfInBounds (j * 4 + 2) v2).setIfInBounds (j * 4 + 3) v3, fps.set j f, by rw [List.length_set], by rw [List.length_set]; exact h2, h3, heap_setCell_same _ g _ _ E v3 (heap_setCell_same _ g _ _ E v2 (heap_setCell_same _ g _ _ E v1 (heap_setCell_same w g _ cur E v0 h4))), by rw [ht]; simpa using h5, rfl, by rw [List.length_set, List.length_set]; exact h7, fun i y hy => ?_⟩, ?_⟩, ?_⟩
    · rw [cell_of_row w g _ cur E (0, 0) h4, Array.getElem?_eq_getElem]
    · by_cases hij : i = j
      · subst hij
        have hyx : y = x := by
          rw [List.getElem?_set_self (by omega)] at hy
          simpa using hy.symm
        subst hyx
        refine ⟨f, List.getElem?_set_self (by rw [h7]; omega), ?_⟩
        have e : (((((cur.setIfInBounds (i * 4) v0).setIfInBounds (i * 4 + 1) v1).setIfInBounds (i * 4 + 2) v2).setIfInBounds (i * 4 + 3) v3).toList.drop (i * t.n)).take t.n = [v0, v1, v2, v3] := by
          rw [ht]
          apply List.ext_getElem?
          intro k
          rw [List.getElem?_take, List.getElem?_drop, hcell]
          by_cases hk : k < 4
          · rw [if_pos hk, if_pos (by omega), Nat.add_sub_cancel_left]
          · rw [if_neg hk, List.getElem?_eq_none (by simp; omega)]
        rw [e]
        exact t.owKept hx (fun b hb => hoth b (fun e => hgf' (e ▸ hb))) hsz
      · rw [List.getElem?_set_ne (fun e => hij e.symm)] at hy
        obtain ⟨f2, hf, ho⟩ := h8 i y hy
        refine ⟨f2, by rw [List.getElem?_set_ne (fun e => hij e.symm)]; exact hf, ?_⟩
        have e : (((((cur.setIfInBounds (j * 4) v0).setIfInBounds (j * 4 + 1) v1).setIfInBounds (j * 4 + 2) v2).setIfInBounds (j * 4 + 3) v3).toList.drop (i * t.n)).take t.n = (cur.toList.drop (i * t.n)).take t.n := by
          rw [ht]
          apply List.ext_getElem?
          intro k
          rw [List.getElem?_take, List.getElem?_take, List.getElem?_drop, List.getElem?_drop]
          by_cases hk : k < 4
          · rw [if_pos hk, if_pos hk, hcell, if_neg (by omega)]
          · rw [if_neg hk, if_neg hk]
        rw [e]
        exact t.owKept ho (fun b hb => hoth b (fun e' => hgf (by rw [← e']; exact List.mem_flatten.2 ⟨f2, List.mem_of_getElem? hf, hb⟩))) hsz
    · rw [List.nodup_cons]
      refine ⟨fun hm => ?_, hsn⟩
      rcases hsm g hm with hm | hm
      · exact hgf' hm
      · exact hgf hm
    · intro b hb
      rcases List.mem_cons.1 hb with rfl | hb
      · exact .inl hgp
      · rcases hsm b hb with hb | hb
        · exact .inr hb
        · exact .inl (by rw [h6]; exact List.mem_cons_of_mem _ hb)

/-- An array's cells. -/
def arrC (x : ArrN) (vm vd : Value) : Array Value := #[.int .i64 x.id, .int .i64 x.n, .int .i64 x.s, vm, .int .i64 x.lost, .int .i64 x.built, .int .i64 x.seq, .int .i64 x.tail, .int .i64 x.gen, vd, .int .i64 x.fuse, .bool x.down, .bool x.broken]
/-- An array in its box B, its disks in the blocks fm, its entries in fd. -/
def ArrAt (w : World) (B : Nat) (x : ArrN) (ms : List MemD) (ds : List (Int × List Int)) (fm fd : List Nat) : Prop :=
  ∃ (bm bd : Option Addr) (cm cd : Nat), Box w B 28 (arrC x (.slice bm ms.length cm) (.slice bd ds.length cd)) ∧ (tMemS 100 57).Mine w [.slice bm ms.length cm] ms fm ∧ (tWrS 91).Mine w [.slice bd ds.length cd] ds fd ∧ (∀ b ∈ fm, b ∉ fd) ∧ B ∉ fm ∧ B ∉ fd
/-- It has moved: what is not its own has not turned. -/
def Moved (B : Nat) (fm : List Nat) (w : World) (fm' : List Nat) (w' : World) : Prop := Turned (B :: fm) w w' ∧ ∀ b ∈ fm', b ∈ fm ∨ w.heap.size ≤ b

theorem Moved.refl (B : Nat) (fm : List Nat) (w : World) : Moved B fm w fm w := ⟨Turned.refl _ _, fun _ h => .inl h⟩
theorem Moved.trans {B : Nat} {f1 f2 f3 : List Nat} {w1 w2 w3 : World} (h : Moved B f1 w1 f2 w2) (k : Moved B f2 w2 f3 w3) : Moved B f1 w1 f3 w3 := by
  have hs := h.1.size
  refine ⟨⟨k.1.os.trans h.1.os, k.1.tape.trans h.1.tape, k.1.output.trans h.1.output, Nat.le_trans h.1.size k.1.size, fun b hb hn => ?_⟩, fun b hb => ?_⟩
  · rw [k.1.block b (by omega) (fun hm => ?_), h.1.block b hb hn]
    rcases List.mem_cons.1 hm with e | hm
    · exact hn (by rw [e]; exact List.mem_cons_self)
    · rcases h.2 b hm with h1 | h1
      · exact hn (List.mem_cons_of_mem _ h1)
      · omega
  · rcases k.2 b hb with h1 | h1
    · exact h.2 b h1
    · exact .inr (by omega)
theorem Moved.below {B : Nat} {f1 f2 : List Nat} {w1 w2 w3 : World} (h : Moved B f1 w1 f2 w2) (k : Below w2.heap.size w2 w3) : Moved B f1 w1 f2 w3 :=
  h.trans ⟨⟨k.os, k.tape, k.output, k.size, fun b hb _ => k.block b hb⟩, fun _ hb => .inl hb⟩
theorem Moved.drew {B : Nat} {f1 f2 : List Nat} {w1 w2 : World} (h : Moved B f1 w1 f2 w2) : Moved B f1 w1 f2 w2.drew := h.below ((Below.refl _ _).drew)
theorem Moved.size {B : Nat} {f1 f2 : List Nat} {w1 w2 : World} (h : Moved B f1 w1 f2 w2) : w1.heap.size ≤ w2.heap.size := h.1.size
/-- A box beside it. -/
theorem Moved.box {B C : Nat} {f1 f2 : List Nat} {w1 w2 : World} {T : TypeId} {cs : Array Value} (h : Moved B f1 w1 f2 w2) (x : Box w1 C T cs) (hne : C ≠ B) (hf : C ∉ f1) : Box w2 C T cs := x.kept (h.1.block C x.lt (by simp [hne, hf]))
theorem Moved.mine {t : Ty} {B : Nat} {f1 f2 fp : List Nat} {w1 w2 : World} {vs : List Value} {d : t.D} (h : Moved B f1 w1 f2 w2) (o : t.Mine w1 vs d fp) (hB : B ∉ fp) (hd : ∀ b ∈ fp, b ∉ f1) : t.Mine w2 vs d fp :=
  o.kept h.1 (fun b hb hm => by
    rcases List.mem_cons.1 hm with e | hm
    · exact hB (e ▸ hb)
    · exact hd b hb hm)
theorem Moved.set {B j : Nat} {fm : List Nat} {w : World} (v : Value) : Moved B fm w fm (w.setCell ⟨B, j, none⟩ v) := ⟨Turned.setCell v List.mem_cons_self, fun _ h => .inl h⟩

theorem ArrAt.lt {w : World} {B : Nat} {x : ArrN} {ms : List MemD} {ds : List (Int × List Int)} {fm fd : List Nat} (h : ArrAt w B x ms ds fm fd) : B < w.heap.size := by
  obtain ⟨_, _, _, _, hx, _⟩ := h
  exact hx.lt
theorem ArrAt.ltm {w : World} {B : Nat} {x : ArrN} {ms : List MemD} {ds : List (Int × List Int)} {fm fd : List Nat} (h : ArrAt w B x ms ds fm fd) : (∀ b ∈ fm, b < w.heap.size) ∧ ∀ b ∈ fd, b < w.heap.size := by
  obtain ⟨_, _, _, _, _, hm, hd, _⟩ := h
  exact ⟨hm.lt, hd.lt⟩
theorem ArrAt.below {w w' : World} {B : Nat} {x : ArrN} {ms : List MemD} {ds : List (Int × List Int)} {fm fd : List Nat} (h : ArrAt w B x ms ds fm fd) (hb : Below w.heap.size w w') : ArrAt w' B x ms ds fm fd := by
  obtain ⟨bm, bd, cm, cd, hx, hm, hd, r⟩ := h
  exact ⟨bm, bd, cm, cd, hx.below hb hx.lt, hm.below hb, hd.below hb, r⟩
theorem ArrAt.drew {w : World} {B : Nat} {x : ArrN} {ms : List MemD} {ds : List (Int × List Int)} {fm fd : List Nat} (h : ArrAt w B x ms ds fm fd) : ArrAt w.drew B x ms ds fm fd := h.below ((Below.refl _ _).drew)
theorem ArrAt.alloc {w : World} {B : Nat} {x : ArrN} {ms : List MemD} {ds : List (Int × List Int)} {fm fd : List Nat} (h : ArrAt w B x ms ds fm fd) (o : Obj) : ArrAt (w.alloc o) B x ms ds fm fd := h.below (new_below w o)
/-- Another box is made anew. -/
theorem ArrAt.kept {w w' : World} {B : Nat} {fq : List Nat} {x : ArrN} {ms : List MemD} {ds : List (Int × List Int)} {fm fd : List Nat} (h : ArrAt w B x ms ds fm fd) (ht : Turned fq w w') (h0 : B ∉ fq) (h1 : ∀ b ∈ fm, b ∉ fq) (h2 : ∀ b ∈ fd, b ∉ fq) : ArrAt w' B x ms ds fm fd := by
  obtain ⟨bm, bd, cm, cd, hx, hm, hd, r⟩ := h
  exact ⟨bm, bd, cm, cd, hx.kept (ht.block B hx.lt h0), hm.kept ht h1, hd.kept ht h2, r⟩

theorem row_head {t : Ty} {E : TypeId} {w : World} {a : Option Addr} {n cap : Nat} {d : List t.D} {fp : List Nat} (h : (rowTy t E).Mine w [.slice a n cap] d fp) (hn : 0 < n) : ∃ g, a = some ⟨g, 0, none⟩ := by
  obtain ⟨h, _⟩ := h
  rcases h with ⟨h1, _⟩ | ⟨b, cap', cur, fps, h1, _⟩
  · simp at h1
    omega
  · simp at h1
    exact ⟨b, h1.1⟩
/-- The disk j of a row of one's own: its cells, and what they hold. -/
theorem disk_at {w : World} {E F : TypeId} {g n cap j : Nat} {ms : List MemD} {d : MemD} {fp : List Nat} (h : (tMemS E F).Mine w [.slice (some ⟨g, 0, none⟩) n cap] ms fp) (hj : ms[j]? = some d) :
    g < w.heap.size ∧ ∃ (a0 a1 a3 : Option Addr) (c0 c1 c3 : Nat) (ss : List (List Int)) (cs : List (Int × List Int)) (f : Bool) (bs : List Int), d = (ss, cs, f, bs) ∧ w.cell? ⟨g, j * 4, none⟩ = some (.slice a0 ss.length c0) ∧ w.cell? ⟨g, j * 4 + 1, none⟩ = some (.slice a1 cs.length c1) ∧ w.cell? ⟨g, j * 4 + 2, none⟩ = some (.bool f) ∧ w.cell? ⟨g, j * 4 + 3, none⟩ = some (.slice a3 bs.length c3) ∧
      tIntSS.Rd w [.slice a0 ss.length c0] ss ∧ (tWrS E).Rd w [.slice a1 cs.length c1] cs ∧ tIntS.Rd w [.slice a3 bs.length c3] bs := by
  have hjl := (List.getElem?_eq_some_iff.1 hj).1
  have hl := (row_length h.rd).1
  rcases quads_at rfl h.rd with h0 | ⟨b, off, hbo, hbl, hcs⟩
  · omega
  · simp at hbo
    obtain ⟨rfl, rfl⟩ := hbo
    obtain ⟨v0, v1, v2, v3, hv0, hv1, hv2, hv3, hrv⟩ := hcs j d hj
    obtain ⟨a0, c0, a1, c1, a3, c3, ss, cs, f, bs, rfl, rfl, rfl, rfl, rfl, r0, r1, r3⟩ := mem_at hrv
    rw [Nat.zero_add] at hv0 hv1 hv2 hv3
    exact ⟨hbl, a0, a1, a3, c0, c1, c3, ss, cs, f, bs, rfl, hv0, hv1, hv2, hv3, r0, r1, r3⟩
/-- A disk is put back into its place. -/
theorem arr_store {w1 w3 : World} {B g cm cd m : Nat} {bd : Option Addr} {x : ArrN} {ms : List MemD} {ds : List (Int × List Int)} {fm fd fpx : List Nat} {d : MemD} {u0 u1 u2 u3 : Value} (X : Box w1 B 28 (arrC x (.slice (some ⟨g, 0, none⟩) ms.length cm) (.slice bd ds.length cd))) (hm : (tMemS 100 57).Mine w1 [.slice (some ⟨g, 0, none⟩) ms.length cm] ms fm) (hd : (tWrS 91).Mine w1 [.slice bd ds.length cd] ds fd) (hr : ∀ b ∈ fm, b ∉ fd) (r1 : B ∉ fm) (r2 : B ∉ fd)
    (hb : Below w1.heap.size w1 w3) (hj : m < ms.length) (hx : (tMem 100).Mine w3 [u0, u1, u2, u3] d fpx) (hx2 : ∀ b ∈ fpx, w1.heap.size ≤ b) :
    (∀ q, q < 4 → ∃ old, w3.cell? ⟨g, m * 4 + q, none⟩ = some old) ∧ (∀ q, w3.frozen? ⟨g, q, none⟩ = false) ∧ g ∈ fm ∧ ∃ fm', ArrAt (put4 w3 g (m * 4) u0 u1 u2 u3) B x (ms.set m d) ds fm' fd ∧ Moved B fm w1 fm' (put4 w3 g (m * 4) u0 u1 u2 u3) := by
  have hlm := hm.lt
  have hld := hd.lt
  have hlB := X.lt
  obtain ⟨c, z, hg, fm', mA, rA⟩ := row_set4 (j := m) rfl (hm.below hb) hj hx (fun b hb' hm' => by have h1 := hx2 b hb'; have h2 := hlm b hm'; omega)
  have ht := put4_turned w3 g (m * 4) u0 u1 u2 u3
  have hgB : B ≠ g := fun e => r1 (e ▸ hg)
  have hgd : ∀ b ∈ fd, b ∉ [g] := fun b hb' hm' => by simp at hm'; exact hr g hg (hm' ▸ hb')
  refine ⟨c, z, hg, fm', ⟨some ⟨g, 0, none⟩, bd, cm, cd, ?_, ?_, (hd.below hb).kept ht hgd, ?_, ?_, r2⟩, ⟨⟨hb.os, hb.tape, hb.output, by rw [put4_size]; exact hb.size, fun b hb' hn => ?_⟩, fun b hb' => ?_⟩⟩
  · rw [List.length_set]
    exact (X.below hb hlB).kept (ht.block B (Nat.lt_of_lt_of_le hlB hb.size) (by simpa using hgB))
  · rw [List.length_set]
    exact mA
  · intro b hb' hm'
    rcases rA b hb' with h | h
    · exact hr b h hm'
    · have h1 := hx2 b h
      have h2 := hld b hm'
      omega
  · intro hm'
    rcases rA B hm' with h | h
    · exact r1 h
    · have := hx2 B h
      omega
  · rw [put4_other (fun e => hn (by rw [e]; exact List.mem_cons_of_mem _ hg)), hb.block b hb']
  · rcases rA b hb' with h | h
    · exact .inl h
    · exact .inr (hx2 b h)

end Go.Proofs.Ytgjldmjlbhkgbaa

/-
  The walk of the specification's ArrNew: a new array in memory of its own. No condition.
-/
namespace Go.Proofs.Ytgjldmjlbhkgbaa
open Go.RowKit

set_option linter.unusedSimpArgs false in
set_option maxRecDepth 20000 in
set_option maxHeartbeats 4000000 in
theorem specArrNew_any (w : World) (id n s : Int) :
    Calls Try.prog 10 #[.int .i64 id, .agg #[.int .i64 n, .int .i64 s]] w fun e w' => ∃ am cm, e = .returned (.agg #[.int .i64 (newX id n s).id, .int .i64 (newX id n s).n, .int .i64 (newX id n s).s, .slice am (newAM id n s).length cm, .int .i64 (newX id n s).lost, .int .i64 (newX id n s).built, .int .i64 (newX id n s).seq, .int .i64 (newX id n s).tail, .int .i64 (newX id n s).gen, .slice none 0 0, .int .i64 (newX id n s).fuse, .bool (newX id n s).down, .bool (newX id n s).broken]) ∧ (tMemS 100 57).Own w' w.heap.size w'.heap.size [.slice am (newAM id n s).length cm] (newAM id n s) ∧ Below w.heap.size w w' := by
  obtain ⟨i4, hi4, hz0, hz1, hz2⟩ := info_parts Try.infoMem
  have hA := (new_below w (.cells #[.int .i64 n, .int .i64 s] 24)).alloc (by simp) (.cells #[.int .i64 0, .int .i64 0, .int .i64 0, .slice none 0 0, .int .i64 0, .int .i64 0, .int .i64 0, .int .i64 0, .int .i64 0, .slice none 0 0, .int .i64 0, .bool false, .bool false] 28)
  have G0 : Gbox ((w.alloc (.cells #[.int .i64 n, .int .i64 s] 24)).alloc (.cells #[.int .i64 0, .int .i64 0, .int .i64 0, .slice none 0 0, .int .i64 0, .int .i64 0, .int .i64 0, .int .i64 0, .int .i64 0, .slice none 0 0, .int .i64 0, .bool false, .bool false] 28)) w.heap.size 24 n s := (Gbox.new w 24 n s).below (new_below _ _) (by simp)
  have X0 := Box.new (w.alloc (.cells #[.int .i64 n, .int .i64 s] 24)) 28 #[.int .i64 0, .int .i64 0, .int .i64 0, .slice none 0 0, .int .i64 0, .int .i64 0, .int .i64 0, .int .i64 0, .int .i64 0, .slice none 0 0, .int .i64 0, .bool false, .bool false]
  rw [World.size_alloc] at X0
  have zG := G0.lt
  have zX := X0.lt
  obtain ⟨q0, q1⟩ := G0.cells
  go_enter Try.func10, Try.ntmps10
  go_wp2_with fail
  generalize (w.alloc (.cells #[.int .i64 n, .int .i64 s] 24)).alloc (.cells #[.int .i64 0, .int .i64 0, .int .i64 0, .slice none 0 0, .int .i64 0, .int .i64 0, .int .i64 0, .int .i64 0, .int .i64 0, .slice none 0 0, .int .i64 0, .bool false, .bool false] 28) = W at hA G0 X0 zG zX q0 q1 ⊢
  refine (specGeoOk_any _ _ _).mono ?_
  rintro e w1 ⟨rfl, b1⟩
  have B1 := Below.andThen hA b1
  have G1 := G0.below b1 zG
  have X1 := X0.below b1 zX
  have z1 := b1.size
  clear q0 q1 hA G0 X0 b1
  cases hg : geoB n s
  · have HZ := hidden (new_no (id := id) (n := n) (s := s) (by unfold newB; rw [hg]; rfl))
    obtain ⟨p0, p1, p2, p3, p4, p5, p6, p7, p8, p9, p10, p11, p12⟩ := X1.cells13
    have fz := X1.frozen
    have hbt := puts_but (w.heap.size + 1) [(0, .int .i64 0), (1, .int .i64 0), (2, .int .i64 0), (3, .slice none 0 0), (4, .int .i64 0), (5, .int .i64 0), (6, .int .i64 0), (7, .int .i64 0), (8, .int .i64 0), (9, .slice none 0 0), (10, .int .i64 0), (11, .bool false), (12, .bool false)] w1
    have FB := hidden (Below.andBut B1 hbt (by omega))
    simp only [puts] at FB
    clear hbt X1 G1 B1
    go_wp2
    refine bodyPost_ret (v := .agg #[.int .i64 0, .int .i64 0, .int .i64 0, .slice none 0 0, .int .i64 0, .int .i64 0, .int .i64 0, .int .i64 0, .int .i64 0, .slice none 0 0, .int .i64 0, .bool false, .bool false]) (by simp [results, Try.results10, go_sem, p0, p1, p2, p3, p4, p5, p6, p7, p8, p9, p10, p11, p12]) rfl ?_
    exact ⟨none, 0, by rw [HZ.out.1, HZ.out.2]; rfl, by rw [HZ.out.2]; exact nil_own _ _ _, FB.out⟩
  · go_wp2_with fail
    refine (l1In_any _ _ _ _).mono ?_
    rintro e wq ⟨rfl, hq⟩
    obtain rfl := hq.symm
    cases hid : inB id 1 60000
    · have HZ := hidden (new_no (id := id) (n := n) (s := s) (by unfold newB; rw [hg, hid]; rfl))
      obtain ⟨p0, p1, p2, p3, p4, p5, p6, p7, p8, p9, p10, p11, p12⟩ := X1.cells13
      have fz := X1.frozen
      have hbt := puts_but (w.heap.size + 1) [(0, .int .i64 0), (1, .int .i64 0), (2, .int .i64 0), (3, .slice none 0 0), (4, .int .i64 0), (5, .int .i64 0), (6, .int .i64 0), (7, .int .i64 0), (8, .int .i64 0), (9, .slice none 0 0), (10, .int .i64 0), (11, .bool false), (12, .bool false)] w1
      have FB := hidden (Below.andBut B1 hbt (by omega))
      simp only [puts] at FB
      clear hbt X1 G1 B1
      go_wp2
      refine bodyPost_ret (v := .agg #[.int .i64 0, .int .i64 0, .int .i64 0, .slice none 0 0, .int .i64 0, .int .i64 0, .int .i64 0, .int .i64 0, .int .i64 0, .slice none 0 0, .int .i64 0, .bool false, .bool false]) (by simp [results, Try.results10, go_sem, p0, p1, p2, p3, p4, p5, p6, p7, p8, p9, p10, p11, p12]) rfl ?_
      exact ⟨none, 0, by rw [HZ.out.1, HZ.out.2]; rfl, by rw [HZ.out.2]; exact nil_own _ _ _, FB.out⟩
    · have HY := hidden (new_yes (id := id) (n := n) (s := s) (by unfold newB; rw [hg, hid]; rfl))
      obtain ⟨g1, g2, g3, g4⟩ := geoB_iff.1 hg
      obtain ⟨k, rfl⟩ : ∃ k : Nat, s = (k : Int) := ⟨s.toNat, by omega⟩
      obtain ⟨N, rfl⟩ : ∃ N : Nat, n = (N : Int) := ⟨n.toNat, by omega⟩
      have hk8 : k ≤ 8 := by omega
      have HG := hidden hg
      have HID := hidden hid
      clear hg hid
      have bn := new_below w1 (.cells #[.int .i64 id, .int .i64 (N : Int), .int .i64 (k : Int), .slice none 0 0, .int .i64 (-1), .int .i64 0, .int .i64 0, .int .i64 0, .int .i64 0, .slice none 0 0, .int .i64 (-1), .bool false, .bool false] 28)
      have zn : (w1.alloc (.cells #[.int .i64 id, .int .i64 (N : Int), .int .i64 (k : Int), .slice none 0 0, .int .i64 (-1), .int .i64 0, .int .i64 0, .int .i64 0, .int .i64 0, .slice none 0 0, .int .i64 (-1), .bool false, .bool false] 28)).heap.size = w1.heap.size + 1 := by simp
      have G2 := G1.below bn (by omega)
      have X2 := X1.below bn (by omega)
      have Y2 := Box.new w1 28 #[.int .i64 id, .int .i64 (N : Int), .int .i64 (k : Int), .slice none 0 0, .int .i64 (-1), .int .i64 0, .int .i64 0, .int .i64 0, .int .i64 0, .slice none 0 0, .int .i64 (-1), .bool false, .bool false]
      have B2 := Below.andThen B1 bn
      obtain ⟨q0, q1⟩ := G1.cells
      clear G1 X1 B1 bn
      go_wp2
      generalize w1.alloc (.cells #[.int .i64 id, .int .i64 (N : Int), .int .i64 (k : Int), .slice none 0 0, .int .i64 (-1), .int .i64 0, .int .i64 0, .int .i64 0, .int .i64 0, .slice none 0 0, .int .i64 (-1), .bool false, .bool false] 28) = W2 at zn G2 X2 Y2 B2 ⊢
      obtain ⟨BO, hBO⟩ : ∃ BO, w1.heap.size = BO := ⟨_, rfl⟩
      rw [hBO] at zn Y2 z1 ⊢
      clear hBO q0 q1
      obtain ⟨LB, hLB⟩ : ∃ LB, W2.heap.size = LB := ⟨_, rfl⟩
      have zLB : LB ≤ BO + 1 ∧ BO + 1 ≤ LB ∧ LB ≤ W2.heap.size ∧ W2.heap.size ≤ LB := by omega
      clear hLB zn
      have XR2 := hidden X2
      have XO2 := hidden Y2
      have GB2 := hidden G2
      have HB2 := hidden B2
      clear X2 Y2 G2 B2
      go_loopw [6] (fun i wr => ∃ (j : Nat) (v0 : Value) (fp0 : List Nat), j ≤ N ∧ i = .int .i64 j ∧ Fr LB BO W2 wr ∧ Box wr BO 28 #[.int .i64 id, .int .i64 (N : Int), .int .i64 (k : Int), v0, .int .i64 (-1), .int .i64 0, .int .i64 0, .int .i64 0, .int .i64 0, .slice none 0 0, .int .i64 (-1), .bool false, .bool false] ∧ (tMemS 100 57).Mine wr [v0] (newMS id (N : Int) (k : Int) j) fp0 ∧ (∀ b ∈ fp0, LB ≤ b)) (fun i _ => N - (intOf i).toNat)
      case atStart => exact ⟨0, _, [], Nat.zero_le _, rfl, Fr.refl _ _ _, XO2.out, nil_mine _, by simp⟩
      case round =>
        obtain ⟨wo, hwo⟩ : ∃ x : World, x = wr := ⟨_, rfl⟩
        subst hwo
        obtain ⟨j, v0, fp0, hj, rfl, fr, xo, hm, hfp⟩ := hrel
        have hs := fr.size
        have hb := HB2.out.trans (fr.below (M := w.heap.size) (by omega) (by omega))
        have gb : Gbox wo w.heap.size 24 (N : Int) (k : Int) := (fr.block _ (by omega) (by omega)).trans GB2.out
        obtain ⟨q0, q1⟩ := gb.cells
        by_cases hjn : j < N
        · have k2 : (j : Int) < (N : Int) := by omega
          have HTK := hidden (newMS_succ id (N : Int) (k : Int) j)
          rw [newMD_nat] at HTK
          have HL := hidden (newMS_len id (N : Int) (k : Int) j)
          have XO := hidden xo
          have GBR := hidden gb
          have FRR := hidden fr
          have HM := hidden hm
          have HFP := hidden hfp
          have L1 : Hid ((newMS id (N : Int) (k : Int) j).length + 1 ≤ maxLen) := by unfold Hid; rw [HL.out]; unfold maxLen; omega
          have L2 : Hid (((newMS id (N : Int) (k : Int) j).length + 1) * 80 ≤ 140737488355328) := by unfold Hid; rw [HL.out]; omega
          have zLw : LB ≤ wo.heap.size := by omega
          clear xo hm hfp hb fr gb
          go_wp2_with fail
          refine (l6Secs_any _ (N : Int) (k : Int) ⟨g3, g4⟩).mono ?_
          rintro e w3 ⟨rfl, b3⟩
          clear q0 q1
          go_wp2_with fail
          refine (specMemNew_any _ (6 + (k : Int))).mono ?_
          rintro e w4 ⟨a0, c0, rfl, o4, b4⟩
          have hln : (newSS (6 + (k : Int))).length = 6 + k := by rw [newSS_rep hk8]; simp
          obtain ⟨L, hL⟩ : ∃ L : Nat, 6 + k = L := ⟨_, rfl⟩
          rw [hL] at hln
          have zL : 6 + k ≤ L ∧ L ≤ 6 + k := by omega
          have zL2 : (0 : Int) < (L : Int) := by omega
          have zL3 : 0 < L := by omega
          clear hL
          rw [hln] at o4 ⊢
          obtain ⟨fp4, m4, r4⟩ := o4.mine
          obtain ⟨g, rfl⟩ := row_head m4 (by omega)
          have b34 : Below wo.heap.size wo w4 := Below.andThen b3 b4
          have z3 := b3.size
          have z4 := b4.size
          have b5 := new_below w4 (.cells #[.slice (some ⟨g, 0, none⟩) L c0, .slice none 0 0, .bool false, .slice none 0 0] 57)
          have B5 : Below wo.heap.size wo (w4.alloc (.cells #[.slice (some ⟨g, 0, none⟩) L c0, .slice none 0 0, .bool false, .slice none 0 0] 57)) := Below.andThen b34 b5
          have G5 := GBR.out.below B5 GBR.out.lt
          have Y5 := Box.new w4 57 #[.slice (some ⟨g, 0, none⟩) L c0, .slice none 0 0, .bool false, .slice none 0 0]
          have z5 : (w4.alloc (.cells #[.slice (some ⟨g, 0, none⟩) L c0, .slice none 0 0, .bool false, .slice none 0 0] 57)).heap.size = w4.heap.size + 1 := by simp
          have M5 := m4.alloc (.cells #[.slice (some ⟨g, 0, none⟩) L c0, .slice none 0 0, .bool false, .slice none 0 0] 57)
          have R5 : ∀ b ∈ fp4, wo.heap.size ≤ b ∧ b < w4.heap.size := fun b hb => by have := r4 b hb; omega
          have hsup := newSup_ok HG.out HID.out (Int.natCast_nonneg j) k2
          clear b3 b4 o4 m4 r4 b34 b5
          go_wp2_with fail
          generalize w4.alloc (.cells #[.slice (some ⟨g, 0, none⟩) L c0, .slice none 0 0, .bool false, .slice none 0 0] 57) = w5 at B5 G5 Y5 z5 M5 ⊢
          obtain ⟨MBN, hMB⟩ : ∃ B, w4.heap.size = B := ⟨_, rfl⟩
          rw [hMB] at Y5 z5 R5 ⊢
          have zMB : wo.heap.size ≤ MBN := by omega
          clear hMB
          have mk : Hid (∀ w', Box w' MBN 57 #[.slice (some ⟨g, 0, none⟩) L c0, .slice none 0 0, .bool false, .slice none 0 0] → Gbox w' w.heap.size 24 (N : Int) (k : Int) → w'.cell? ⟨MBN, 0, none⟩ = some (.slice (some ⟨g, 0, none⟩) L c0) ∧ w'.cell? ⟨w.heap.size, 0, none⟩ = some (.int .i64 (N : Int)) ∧ w'.cell? ⟨w.heap.size, 1, none⟩ = some (.int .i64 (k : Int))) := fun w' h1 h2 => ⟨h1.cell 0, h2.cells.1, h2.cells.2⟩
          have hS : w5.drew.cell? ⟨MBN, 0, none⟩ = some (.slice (some ⟨g, 0, none⟩) L c0) ∧ w5.drew.cell? ⟨w.heap.size, 0, none⟩ = some (.int .i64 (N : Int)) ∧ w5.drew.cell? ⟨w.heap.size, 1, none⟩ = some (.int .i64 (k : Int)) := mk.out w5.drew Y5 G5
          have Y5H := hidden Y5
          have G5H := hidden G5
          have M5H := hidden M5
          have B5H := hidden B5
          have R5H := hidden R5
          clear Y5 G5 M5 B5 R5
          generalize hPP : putD (newSup id (N : Int) (k : Int) (j : Int)) = P at HTK
          refine Upto.start (S := fun w' => w'.cell? ⟨MBN, 0, none⟩ = some (.slice (some ⟨g, 0, none⟩) L c0) ∧ w'.cell? ⟨w.heap.size, 0, none⟩ = some (.int .i64 (N : Int)) ∧ w'.cell? ⟨w.heap.size, 1, none⟩ = some (.int .i64 (k : Int))) (k := 11) (by kernel_rfl) ?_
          refine Upto.take (i := 0) (v := ?_) rfl (by kernel_rfl) (by kernel_rfl) (by kernel_rfl) (by kernel_rfl) (fun _ _ _ h => h) (Or.inl ⟨by rfl, ?_⟩) hS ?_
          rotate_left 1
          · (intro w hSw; (try dsimp only at hSw); go_split_ands; go_simp; first | done | with_reducible rfl)
          simp only [Act.put, List.setIfInBounds_toArray, List.set_cons_zero, List.set_cons_succ]
          refine Upto.take (i := 1) (v := ?_) rfl (by kernel_rfl) (by kernel_rfl) (by kernel_rfl) (by kernel_rfl) (fun _ _ _ h => h) (Or.inl ⟨by rfl, ?_⟩) hS ?_
          rotate_left 1
          · (intro w hSw; (try dsimp only at hSw); go_split_ands; go_simp; first | done | with_reducible rfl)
          simp only [Act.put, List.setIfInBounds_toArray, List.set_cons_zero, List.set_cons_succ]
          refine Upto.take (i := 2) (v := ?_) rfl (by kernel_rfl) (by kernel_rfl) (by kernel_rfl) (by kernel_rfl) (fun _ _ _ h => h) (Or.inl ⟨by rfl, ?_⟩) hS ?_
          rotate_left 1
          · (intro w hSw; (try dsimp only at hSw); go_split_ands; go_simp; first | done | with_reducible rfl)
          simp only [Act.put, List.setIfInBounds_toArray, List.set_cons_zero, List.set_cons_succ]
          refine Upto.take (i := 3) (v := ?_) rfl (by kernel_rfl) (by kernel_rfl) (by kernel_rfl) (by kernel_rfl) (fun _ _ _ h => h) (Or.inl ⟨by rfl, ?_⟩) hS ?_
          rotate_left 1
          · (intro w hSw; (try dsimp only at hSw); go_split_ands; go_simp; first | done | with_reducible rfl)
          simp only [Act.put, List.setIfInBounds_toArray, List.set_cons_zero, List.set_cons_succ]
          refine Upto.take (i := 4) (v := ?_) rfl (by kernel_rfl) (by kernel_rfl) (by kernel_rfl) (by kernel_rfl) (fun _ _ _ h => h) (Or.inl ⟨by rfl, ?_⟩) hS ?_
          rotate_left 1
          · (intro w hSw; (try dsimp only at hSw); go_split_ands; go_simp; first | done | with_reducible rfl)
          simp only [Act.put, List.setIfInBounds_toArray, List.set_cons_zero, List.set_cons_succ]
          refine Upto.take (i := 5) (v := ?_) rfl (by kernel_rfl) (by kernel_rfl) (by kernel_rfl) (by kernel_rfl) (fun _ _ _ h => h) (Or.inl ⟨by rfl, ?_⟩) hS ?_
          rotate_left 1
          · (intro w hSw; (try dsimp only at hSw); go_split_ands; go_simp; first | done | with_reducible rfl)
          simp only [Act.put, List.setIfInBounds_toArray, List.set_cons_zero, List.set_cons_succ]
          refine Upto.take (i := 6) (v := ?_) rfl (by kernel_rfl) (by kernel_rfl) (by kernel_rfl) (by kernel_rfl) (fun _ _ _ h => h) (Or.inl ⟨by rfl, ?_⟩) hS ?_
          rotate_left 1
          · (intro w hSw; (try dsimp only at hSw); go_split_ands; go_simp; first | done | with_reducible rfl)
          simp only [Act.put, List.setIfInBounds_toArray, List.set_cons_zero, List.set_cons_succ]
          refine Upto.take (i := 7) (v := ?_) rfl (by kernel_rfl) (by kernel_rfl) (by kernel_rfl) (by kernel_rfl) (fun _ _ _ h => h) (Or.inl ⟨by rfl, ?_⟩) hS ?_
          rotate_left 1
          · (intro w hSw; (try dsimp only at hSw); go_split_ands; go_simp; first | done | with_reducible rfl)
          simp only [Act.put, List.setIfInBounds_toArray, List.set_cons_zero, List.set_cons_succ]
          refine Upto.take (i := 8) (v := ?_) rfl (by kernel_rfl) (by kernel_rfl) (by kernel_rfl) (by kernel_rfl) (fun _ _ _ h => h) (Or.inl ⟨by rfl, ?_⟩) hS ?_
          rotate_left 1
          · (intro w hSw; (try dsimp only at hSw); go_split_ands; go_simp; first | done | with_reducible rfl)
          simp only [Act.put, List.setIfInBounds_toArray, List.set_cons_zero, List.set_cons_succ]
          refine Upto.one (i := 9) (by kernel_rfl) rfl (fun K hK => ?_)
          go_simp
          refine (specPutSuper_any _ (newSup id (N : Int) (k : Int) (j : Int))).mono ?_
          rintro e w6 ⟨ap, lp, cp, rfl, o6, b6'⟩
          have b6 : Below w5.heap.size w5 w6 := (Below.refl w5.heap.size w5).drew.trans b6'
          have o6b : tIntS.Own w6 w5.heap.size w6.heap.size [.slice ap lp cp] P := by rw [← hPP]; exact o6
          have HPP := hidden hPP
          clear hPP
          obtain ⟨fpp, mp, rp⟩ := o6b.mine
          have z6 := b6.size
          have Y6 := Y5H.out.below b6 (by omega)
          have G6 := G5H.out.below b6 (by omega)
          have M6 := M5H.out.below b6
          have hS6 : w6.cell? ⟨MBN, 0, none⟩ = some (.slice (some ⟨g, 0, none⟩) L c0) ∧ w6.cell? ⟨w.heap.size, 0, none⟩ = some (.int .i64 (N : Int)) ∧ w6.cell? ⟨w.heap.size, 1, none⟩ = some (.int .i64 (k : Int)) := mk.out w6 Y6 G6
          obtain ⟨⟨old, cOld⟩, fz, hgm, fpA, mA, rA⟩ := row_set1 (j := 0) rfl M6 (by omega) mp (fun b hb hb' => by have h1 := rp b hb; have h2 := R5H.out b hb'; omega)
          rw [newPD_zero hk8] at mA
          have hgr := R5H.out g hgm
          have nMg : ¬ MBN = g := by omega
          have nMg2 : ¬ g = MBN := by omega
          have Y7 : Box (w6.setCell ⟨g, 0, none⟩ (.slice ap lp cp)) MBN 57 #[.slice (some ⟨g, 0, none⟩) L c0, .slice none 0 0, .bool false, .slice none 0 0] := Y6.other (by omega) 0 _
          have B7 : Below wo.heap.size wo (w6.setCell ⟨g, 0, none⟩ (.slice ap lp cp)) := ((B5H.out.trans (b6.mono (by omega))).setCell (show wo.heap.size ≤ g by omega) _)
          have R7 : ∀ b ∈ fpA, wo.heap.size ≤ b ∧ b ≠ MBN := fun b hb => by
            rcases rA b hb with h | h
            · have := R5H.out b h; omega
            · have := rp b h; omega
          have z7 : MBN < (w6.setCell ⟨g, 0, none⟩ (.slice ap lp cp)).heap.size := Y7.lt
          have Y7H := hidden Y7
          have B7H := hidden B7
          have M7H := hidden mA
          have R7H := hidden R7
          clear Y6 G6 M6 mp rp o6 o6b b6 b6' mA rA Y7 B7 R7 Y5H G5H M5H B5H R5H
          go_wp2_with fail
          refine hK.out _ _ (fun _ => hS6) ?_
          clear hK K
          refine Upto.take (i := 10) (v := ?_) rfl (by kernel_rfl) (by kernel_rfl) (by kernel_rfl) (by kernel_rfl) (fun _ _ _ h => h) (Or.inl ⟨by rfl, ?_⟩) hS6 ?_
          rotate_left 1
          · (intro w hSw; (try dsimp only at hSw); go_split_ands; go_simp; first | done | with_reducible rfl)
          simp only [Act.put, List.setIfInBounds_toArray, List.set_cons_zero, List.set_cons_succ]
          refine Upto.one (i := 11) (by kernel_rfl) rfl (fun K hK => ?_)
          go_simp
          refine hK.out _ _ (fun h => absurd rfl h) ?_
          clear hK K
          refine Upto.done (by kernel_rfl) ?_ _
          clear hS hS6 cOld fz mk
          generalize w6.setCell ⟨g, 0, none⟩ (.slice ap lp cp) = w7 at Y7H B7H M7H z7 ⊢
          have zm7 := B7H.out.size
          go_wp2
          go_loopw [8] (fun i wi => ∃ (q : Nat) (fq : List Nat), q ≤ k ∧ i = .int .i64 q ∧ Below wo.heap.size wo wi ∧ Box wi MBN 57 #[.slice (some ⟨g, 0, none⟩) L c0, .slice none 0 0, .bool false, .slice none 0 0] ∧ tIntSS.Mine wi [.slice (some ⟨g, 0, none⟩) L c0] (newPD P k q) fq ∧ (∀ b ∈ fq, wo.heap.size ≤ b ∧ b ≠ MBN)) (fun i _ => k - (intOf i).toNat)
          case atStart => exact ⟨0, _, Nat.zero_le _, rfl, B7H.out, Y7H.out, M7H.out, R7H.out⟩
          case round =>
            obtain ⟨q, fq, hq, rfl, bi, yi, mi, ri⟩ := hrel
            have gi := GBR.out.below bi GBR.out.lt
            obtain ⟨q0, q1⟩ := gi.cells
            have zi := bi.size
            have zy := yi.lt
            by_cases hqk : q < k
            · have k3 : (q : Int) < (k : Int) := by omega
              obtain ⟨Q, hQ⟩ : ∃ Q : Nat, 6 + q = Q := ⟨_, rfl⟩
              have hd : dataN (q : Int) = (Q : Int) := by unfold dataN; rw [if_pos (by omega)]; omega
              have bl := new_below wr (.cells #[.int .i64 0] 3)
              have zl : (wr.alloc (.cells #[.int .i64 0] 3)).heap.size = wr.heap.size + 1 := by simp
              have ol := own_ints (Owns.lit .i64 3 wr [0] 1 #[.int .i64 0] rfl rfl (by unfold maxLen; omega))
              obtain ⟨fl, ml, rl⟩ := ol.mine
              have yl := yi.alloc (.cells #[.int .i64 0] 3)
              obtain ⟨⟨old, cOld⟩, fz, hgm, fpA, mA, rA⟩ := row_set1 (j := Q) rfl (mi.alloc (.cells #[.int .i64 0] 3)) (by omega) ml (fun b hb hb' => by have h1 := rl b hb; have h2 := mi.lt b hb'; omega)
              rw [← hQ, newPD_set hqk, hQ] at mA
              have hgr := ri g hgm
              have nMg : ¬ MBN = g := by omega
              have nMg2 : ¬ g = MBN := by omega
              have YN : Hid (Box ((wr.alloc (.cells #[.int .i64 0] 3)).setCell ⟨g, Q, none⟩ (.slice (some ⟨wr.heap.size, 0, none⟩) 1 1)) MBN 57 #[.slice (some ⟨g, 0, none⟩) L c0, .slice none 0 0, .bool false, .slice none 0 0]) := yl.other (by omega) _ _
              have BN : Hid (Below wo.heap.size wo ((wr.alloc (.cells #[.int .i64 0] 3)).setCell ⟨g, Q, none⟩ (.slice (some ⟨wr.heap.size, 0, none⟩) 1 1))) := ((bi.trans (bl.mono zi)).setCell (show wo.heap.size ≤ g by omega) _)
              have RN : Hid (∀ b ∈ fpA, wo.heap.size ≤ b ∧ b ≠ MBN) := fun b hb => by
                rcases rA b hb with h | h
                · exact ri b h
                · have := rl b h; omega
              have MN := hidden mA
              have hS : wr.drew.cell? ⟨MBN, 0, none⟩ = some (.slice (some ⟨g, 0, none⟩) L c0) := yi.cell 0
              have hS1 : (wr.alloc (.cells #[.int .i64 0] 3)).drew.cell? ⟨MBN, 0, none⟩ = some (.slice (some ⟨g, 0, none⟩) L c0) := yl.cell 0
              have i1 : (0 : Int) ≤ (Q : Int) := by omega
              have i2 : (Q : Int) < (L : Int) := by omega
              have i3 : Q < L := by omega
              have HD := hidden hd
              clear mA rA ml rl ol bl yl yi mi ri bi gi hd hQ
              go_wp2_with fail
              refine Late.start (S := fun w' => w'.cell? ⟨MBN, 0, none⟩ = some (.slice (some ⟨g, 0, none⟩) L c0)) (k := 6) (by kernel_rfl) ?_
              refine Late.take (i := 0) (v := ?_) rfl (by kernel_rfl) (by kernel_rfl) (by kernel_rfl) (by kernel_rfl) (fun _ _ _ h => h) (Or.inl ⟨by rfl, ?_⟩) hS ?_
              rotate_left 1
              · (intro w hSw; (try dsimp only at hSw); go_split_ands; go_simp; first | done | with_reducible rfl)
              simp only [Act.put, List.setIfInBounds_toArray, List.set_cons_zero, List.set_cons_succ]
              refine Late.take (i := 1) (v := ?_) rfl (by kernel_rfl) (by kernel_rfl) (by kernel_rfl) (by kernel_rfl) (fun _ _ _ h => h) (Or.inl ⟨by rfl, ?_⟩) hS ?_
              rotate_left 1
              · (intro w hSw; (try dsimp only at hSw); go_split_ands; go_simp; first | done | with_reducible rfl)
              simp only [Act.put, List.setIfInBounds_toArray, List.set_cons_zero, List.set_cons_succ]
              refine Late.take (i := 2) (v := ?_) rfl (by kernel_rfl) (by kernel_rfl) (by kernel_rfl) (by kernel_rfl) (fun _ _ _ h => h) (Or.inl ⟨by rfl, ?_⟩) hS ?_
              rotate_left 1
              · (intro w hSw; (try dsimp only at hSw); go_split_ands; go_simp; first | done | with_reducible rfl)
              simp only [Act.put, List.setIfInBounds_toArray, List.set_cons_zero, List.set_cons_succ]
              refine Late.two (i := 3) (i' := 4) (by kernel_rfl) rfl rfl (fun K hK => ?_) (fun K hK => ?_)
              · go_simp
                refine (specDataAt_any _ _).mono ?_
                rintro e w9 ⟨rfl, h9⟩
                subst h9
                rw [HD.out]
                go_wp2_with fail
                refine hK.out _ _ (fun _ => hS) ?_
                clear hK K
                refine Late.one (i := 4) (by kernel_rfl) rfl (fun K hK => ?_)
                go_simp
                refine hK.out _ _ (fun _ => hS1) ?_
                clear hK K
                refine Late.take (i := 5) (v := ?_) rfl (by kernel_rfl) (by kernel_rfl) (by kernel_rfl) (by kernel_rfl) (fun _ _ _ h => h) (Or.inl ⟨by rfl, ?_⟩) hS1 ?_
                rotate_left 1
                · (intro w hSw; (try dsimp only at hSw); go_split_ands; go_simp; first | done | with_reducible rfl)
                simp only [Act.put, List.setIfInBounds_toArray, List.set_cons_zero, List.set_cons_succ]
                refine Late.one (i := 6) (by kernel_rfl) rfl (fun K hK => ?_)
                go_simp
                refine hK.out _ _ (fun h => absurd rfl h) ?_
                clear hK K
                refine Late.done (by kernel_rfl) ?_ _
                go_wp2
                go_roundw
                case rel => exact ⟨q + 1, fpA, by omega, by go_num, BN.out.drew, YN.out, MN.out, RN.out⟩
                case measure => simp [intOf]; omega
              · go_simp
                refine hK.out _ _ (fun _ => hS1) ?_
                clear hK K
                refine Late.one (i := 3) (by kernel_rfl) rfl (fun K hK => ?_)
                go_simp
                refine (specDataAt_any _ _).mono ?_
                rintro e w9 ⟨rfl, h9⟩
                subst h9
                rw [HD.out]
                go_wp2_with fail
                refine hK.out _ _ (fun _ => hS1) ?_
                clear hK K
                refine Late.take (i := 5) (v := ?_) rfl (by kernel_rfl) (by kernel_rfl) (by kernel_rfl) (by kernel_rfl) (fun _ _ _ h => h) (Or.inl ⟨by rfl, ?_⟩) hS1 ?_
                rotate_left 1
                · (intro w hSw; (try dsimp only at hSw); go_split_ands; go_simp; first | done | with_reducible rfl)
                simp only [Act.put, List.setIfInBounds_toArray, List.set_cons_zero, List.set_cons_succ]
                refine Late.one (i := 6) (by kernel_rfl) rfl (fun K hK => ?_)
                go_simp
                refine hK.out _ _ (fun h => absurd rfl h) ?_
                clear hK K
                refine Late.done (by kernel_rfl) ?_ _
                go_wp2
                go_roundw
                case rel => exact ⟨q + 1, fpA, by omega, by go_num, BN.out.drew, YN.out, MN.out, RN.out⟩
                case measure => simp [intOf]; omega
            · have eq : q = k := by omega
              subst eq
              have om := mem_own3 (E := 100) (f := false) (lo := wo.heap.size) (hi := wr.heap.size) (l1 := wr.heap.size) (u1 := wr.heap.size) (l3 := wr.heap.size) (u3 := wr.heap.size) (mi.own (lo := wo.heap.size) (hi := wr.heap.size) (fun b hb => ⟨(ri b hb).1, mi.lt b hb⟩)) (nil_own _ _ _) (nil_own _ _ _) (.inl (Nat.le_refl _)) (.inl (Nat.le_refl _)) (.inl (Nat.le_refl _)) ⟨Nat.le_refl _, Nat.le_refl _⟩ ⟨zi, Nat.le_refl _⟩ ⟨zi, Nat.le_refl _⟩
              obtain ⟨fpx, mx, rx⟩ := om.mine
              have xoc := XO.out.below bi (by omega)
              obtain ⟨r0, r1, r2, r3, r4, r5, r6, r7, r8, r9, r10, r11, r12⟩ := xoc.cells13
              obtain ⟨y0, y1, y2, y3⟩ := yi.cells4
              have XOC := hidden xoc
              have MX := hidden mx
              have RX := hidden rx
              have HBC := hidden bi
              have zB : (wr.alloc (.cells #[.slice (some ⟨g, 0, none⟩) L c0, .slice none 0 0, .bool false, .slice none 0 0] 57)).heap.size = wr.heap.size + 1 := by simp
              clear xoc mx rx om yi mi ri gi bi
              go_wp2_with (at_builtin; refine wpList_appT (tMem 100) rfl _ _ 25 rfl 57 i4 (.agg #[.slice none 0 0, .slice none 0 0, .bool false, .slice none 0 0]) 80 Try.underlying25 hi4 hz0 hz1 hz2 rfl (by decide) v0 (newMS id (N : Int) (q : Int) j) fp0 rfl ?_ ⟨wr.heap.size, 0, none⟩ 1 [.slice (some ⟨g, 0, none⟩) L c0, .slice none 0 0, .bool false, .slice none 0 0] (newPD P q q, [], false, []) fpx rfl ?_ ?_ ?_ ?_ ?_ ?_ ?_; exact (HM.out.below HBC.out).alloc _; exact MX.out.alloc _; (intro b hb hb'; have h1 := HM.out.lt b hb; have h2 := RX.out b hb'; omega); exact news_new _ _ _; (intro u hu; simp at hu; rcases hu with hu | hu | hu | hu <;> (rw [hu]; rfl)); exact L1.out; exact L2.out; intro v9 wA fpA m1 m2 m3; rw [← HTK.out] at m1; obtain ⟨ea, ca, hv9⟩ := row_shape m1.rd; rw [newMS_len] at hv9; subst hv9; have ya := (XOC.out.alloc (.cells #[.slice (some ⟨g, 0, none⟩) L c0, .slice none 0 0, .bool false, .slice none 0 0] 57)).turned m3 (fun hm => by have := HFP.out _ hm; omega); have rr3 : wA.cell? ⟨BO, 3, none⟩ = some v0 := ya.cell 3; have fz := ya.frozen 3; have YA := hidden ya; have M1 := hidden m1; have M2 := hidden m2; have M3 := hidden m3; clear ya m1 m2 m3)
              have HFA := hidden (round_fp (N := LB) zLw HBC.out HFP.out RX.out M2.out)
              have FRA := hidden (Fr.round FRR.out zLw HBC.out _ M3.out HFP.out 3 (.slice ea (j + 1) ca))
              have MA := hidden (M1.out.setCell (g := BO) (j := 3) (fun hm => by have := HFA.out _ hm; omega) (.slice ea (j + 1) ca))
              have YA' := hidden (YA.out.set 3 (.slice ea (j + 1) ca))
              go_roundw
              case rel => exact ⟨j + 1, _, fpA, by omega, by go_num, FRA.out, YA'.out, MA.out, HFA.out⟩
              case measure => simp [intOf]; omega
        · have ej : j = N := by omega
          subst ej
          have hlt := hm.lt
          obtain ⟨eM, gM, hvM⟩ := row_shape hm.rd
          rw [newMS_len] at hvM
          subst hvM
          have KM := hm.own (lo := LB) (hi := wo.heap.size) (fun b hb => ⟨hfp b hb, hlt b hb⟩)
          have xr := fr.box XR2.out (by omega) (by omega)
          have hbt := puts_but (w.heap.size + 1) [(0, .int .i64 id), (1, .int .i64 (j : Int)), (2, .int .i64 (k : Int)), (3, .slice eM j gM), (4, .int .i64 (-1)), (5, .int .i64 0), (6, .int .i64 0), (7, .int .i64 0), (8, .int .i64 0), (9, .slice none 0 0), (10, .int .i64 (-1)), (11, .bool false), (12, .bool false)] wo
          have hsz := hbt.size
          have FO := hidden ((KM.but hbt (.inr (by omega))).widen (lo' := w.heap.size) (by omega) hsz)
          have FB := hidden (Below.andBut hb hbt (by omega))
          simp only [puts] at FO FB
          obtain ⟨p0, p1, p2, p3, p4, p5, p6, p7, p8, p9, p10, p11, p12⟩ := xr.cells13
          have fz := xr.frozen
          obtain ⟨r0, r1, r2, r3, r4, r5, r6, r7, r8, r9, r10, r11, r12⟩ := xo.cells13
          clear fr xo hb hm hfp hlt xr KM hbt hsz gb hj hs
          go_wp2
          refine bodyPost_ret (v := .agg #[.int .i64 id, .int .i64 (j : Int), .int .i64 (k : Int), .slice eM j gM, .int .i64 (-1), .int .i64 0, .int .i64 0, .int .i64 0, .int .i64 0, .slice none 0 0, .int .i64 (-1), .bool false, .bool false]) (by simp [results, Try.results10, go_sem, p0, p1, p2, p3, p4, p5, p6, p7, p8, p9, p10, p11, p12]) rfl ?_
          have hnl : (newMS id (j : Int) (k : Int) (j : Int).toNat).length = j := by rw [newMS_len]; simp
          exact ⟨eM, gM, by rw [HY.out.1, HY.out.2, hnl], by rw [HY.out.2, hnl, Int.toNat_natCast]; exact FO.out, FB.out⟩

end Go.Proofs.Ytgjldmjlbhkgbaa

/-
  Plain lemmas on rows of structs that are numbers and, behind them, a slice of numbers (commands, answers): their cells, how one is stored and marked. No condition; nothing of the program is named here.
-/
namespace Go.Proofs.Ytgjldmjlbhkgbaa
open Go.RowKit

abbrev tAns : Ty := pairTy intTy (pairTy intTy tIntS)
abbrev tCmd : Ty := pairTy intTy (pairTy intTy (pairTy intTy (pairTy intTy tIntS)))
abbrev AnsD := Int × Int × List Int
abbrev CmdD := Int × Int × Int × Int × List Int
abbrev tAnsS (E : TypeId) : Ty := rowTy tAns E
abbrev tCmdS (E : TypeId) : Ty := rowTy tCmd E

theorem int_rd {u : Ty} {w : World} {v : Value} {vs : List Value} {x : Int} {y : u.D} (h : (pairTy intTy u).Rd w (v :: vs) (x, y)) : v = .int .i64 x ∧ u.Rd w vs y := by
  obtain ⟨⟨_, h1, _⟩, h2⟩ := pair_rd (t := intTy) (u := u) (vs := [v]) (us := vs) rfl h
  exact ⟨by simpa using h1, h2⟩
theorem int_rd_of {u : Ty} {w : World} {vs : List Value} {x : Int} {y : u.D} (h : u.Rd w vs y) : (pairTy intTy u).Rd w (.int .i64 x :: vs) (x, y) := pair_rd_of (t := intTy) (vs := [.int .i64 x]) (x := x) ⟨[], rfl, rfl⟩ h
theorem int_mine {u : Ty} {w : World} {v : Value} {vs : List Value} {x : Int} {y : u.D} {fp : List Nat} (h : (pairTy intTy u).Mine w (v :: vs) (x, y) fp) : v = .int .i64 x ∧ u.Mine w vs y fp := by
  obtain ⟨fa, fb, hfe, ⟨⟨hv0, hfa⟩, _⟩, hmv, _⟩ := pair_mine (t := intTy) (u := u) (vs := [v]) (us := vs) rfl h
  subst hfa
  subst hfe
  exact ⟨by simpa using hv0, hmv⟩
theorem int_mine_of {u : Ty} {w : World} {vs : List Value} {x : Int} {y : u.D} {fp : List Nat} (h : u.Mine w vs y fp) : (pairTy intTy u).Mine w (.int .i64 x :: vs) (x, y) fp := by
  have := pair_mine_of (t := intTy) (u := u) (vs := [.int .i64 x]) (us := vs) (x := x) (f1 := []) ⟨⟨rfl, rfl⟩, by simp⟩ h (by simp)
  simpa using this
theorem int_own_of {u : Ty} {w : World} {lo hi : Nat} {vs : List Value} {x : Int} {y : u.D} (h : u.Own w lo hi vs y) : (pairTy intTy u).Own w lo hi (.int .i64 x :: vs) (x, y) := by
  obtain ⟨fp, m, r⟩ := h.mine
  exact (int_mine_of m).own r
/-- A row's element, by its cells. -/
theorem rowN_at {t : Ty} {E : TypeId} {w : World} {a : Option Addr} {n cap : Nat} {d : List t.D} (h : (rowTy t E).Rd w [.slice a n cap] d) :
    n = 0 ∨ ∃ b off, a = some ⟨b, off, none⟩ ∧ b < w.heap.size ∧ ∀ (i : Nat) (x : t.D), d[i]? = some x → ∃ cs, cs.length = t.n ∧ t.Rd w cs x ∧ ∀ j, j < t.n → w.cell? ⟨b, off + (i * t.n + j), none⟩ = cs[j]? := by
  obtain ⟨fp, a', cap', hv, h2, h3, h4⟩ := h
  simp only [List.cons.injEq, Value.slice.injEq, and_true] at hv
  obtain ⟨rfl, rfl, rfl⟩ := hv
  rcases h4 with ⟨h5, _⟩ | ⟨b, off, fps, h5, h6, _, _, h9⟩
  · exact .inl h5
  · refine .inr ⟨b, off, h5, h6, fun i x hx => ?_⟩
    obtain ⟨f, cs, _, hrd, hc⟩ := h9 i x hx
    exact ⟨cs, t.rdLen hrd, ⟨f, hrd⟩, hc⟩

theorem setCells_row {g : Nat} {E : TypeId} : ∀ (vs : List Value) (o : Nat) (w : World) (cur : Array Value), w.heap[g]? = some (.cells cur E (0, 0)) → o + vs.length ≤ cur.size →
    ∃ cur', (w.setCells g o vs).heap[g]? = some (.cells cur' E (0, 0)) ∧ cur'.size = cur.size ∧ ∀ k, cur'.toList[k]? = if o ≤ k ∧ k < o + vs.length then vs[k - o]? else cur.toList[k]?
  | [], o, w, cur, h, _ => ⟨cur, h, rfl, fun k => by rw [if_neg (by rw [List.length_nil]; omega)]⟩
  | v :: vs, o, w, cur, h, hl => by
    have hl' : o + (vs.length + 1) ≤ cur.size := hl
    obtain ⟨cur', h1, h2, h3⟩ := setCells_row vs (o + 1) (w.setCell ⟨g, o, none⟩ v) (cur.setIfInBounds o v) (heap_setCell_same w g o cur E v h) (by simp; omega)
    refine ⟨cur', h1, by rw [h2]; simp, fun k => ?_⟩
    rw [h3, Array.toList_setIfInBounds]
    by_cases hk : k = o
    · subst hk
      rw [if_neg (by omega), if_pos (by simp), List.getElem?_set_self (by simp; omega), Nat.sub_self]
      rfl
    · rw [List.getElem?_set_ne (by omega)]
      by_cases hk2 : o + 1 ≤ k ∧ k < o + 1 + vs.length
      · rw [if_pos hk2, if_pos (by simp; omega), show k - o = (k - (o + 1)) + 1 by omega]
        rfl
      · rw [if_neg hk2, if_neg (by simp; omega)]
theorem setCells_turned {g : Nat} : ∀ (vs : List Value) (o : Nat) (w : World), Turned [g] w (w.setCells g o vs)
  | [], _, w => Turned.refl _ w
  | v :: vs, o, w => (Turned.setCell v (by simp)).trans (setCells_turned vs (o + 1) _)
theorem setCells_size {g : Nat} : ∀ (vs : List Value) (o : Nat) (w : World), (w.setCells g o vs).heap.size = w.heap.size
  | [], _, _ => rfl
  | v :: vs, o, w => (setCells_size vs (o + 1) (w.setCell ⟨g, o, none⟩ v)).trans (World.size_setCell _ _ _)

/-- A struct is stored into a row of one's own. -/
theorem row_storeN {t : Ty} {E : TypeId} {w : World} {lo hi lo' hi' g n cap j : Nat} {d : List t.D} {vs : List Value} {x : t.D} (h : (rowTy t E).Own w lo hi [.slice (some ⟨g, 0, none⟩) n cap] d)
    (hj : j < n) (hx : t.Own w lo' hi' vs x) (hlo : hi ≤ lo') (hle : hi ≤ hi') :
    (∀ q, q < t.n → ∃ old, w.cell? ⟨g, j * t.n + q, none⟩ = some old) ∧ (∀ q, w.frozen? ⟨g, q, none⟩ = false) ∧
      (rowTy t E).Own (w.setCells g (j * t.n) vs) lo hi' [.slice (some ⟨g, 0, none⟩) n cap] (d.set j x) ∧ But lo hi w (w.setCells g (j * t.n) vs) := by
  obtain ⟨cur, hc, hcs, hnc, _, _⟩ := row_block h
  obtain ⟨fx, hx1, _⟩ := hx.mine
  have hvl := t.rdLen (t.owRd hx1.1)
  have hfit : j * t.n + t.n ≤ cur.size := by
    have : (j + 1) * t.n ≤ cap * t.n := Nat.mul_le_mul_right _ (by omega)
    rw [Nat.add_mul] at this
    omega
  have hT := setCells_turned (g := g) vs (j * t.n) w
  refine ⟨fun q hq => ⟨cur[j * t.n + q]'(by omega), ?_⟩, fun q => frozen_of_row w g _ cur E hc, ?_⟩
  · rw [cell_of_row w g _ cur E (0, 0) hc, Array.getElem?_eq_getElem]
  · refine row_store h hj hx hlo hle hT.os hT.tape hT.output hT.size (fun b hb => ?_) (fun cur2 hc2 _ => ?_)
    · by_cases hbl : b < w.heap.size
      · exact hT.block b hbl (by simpa using hb)
      · rw [Array.getElem?_eq_none (by rw [setCells_size]; omega), Array.getElem?_eq_none (by omega)]
    · rw [hc] at hc2
      simp at hc2
      subst hc2
      obtain ⟨cur', k1, k2, k3⟩ := setCells_row (E := E) vs (j * t.n) w cur hc (by omega)
      refine ⟨cur', k1, k2, fun k => ?_⟩
      rw [k3 k, hvl, show j * t.n + t.n = (j + 1) * t.n by rw [Nat.add_mul]; omega]

end Go.Proofs.Ytgjldmjlbhkgbaa

/-
  Plain lemmas on rows of structs whose fields are numbers and slices of numbers in any order: their parts; what has been set in a row, store by store. No condition; nothing of the program is named here.
-/
namespace Go.Proofs.Ytgjldmjlbhkgbaa
open Go.RowKit

theorem ints_rd_p {u : Ty} {w : World} {v : Value} {vs : List Value} {zs : List Int} {y : u.D} (h : (pairTy tIntS u).Rd w (v :: vs) (zs, y)) : ∃ a c, v = .slice a zs.length c ∧ tIntS.Rd w [.slice a zs.length c] zs ∧ u.Rd w vs y := by
  obtain ⟨h1, h2⟩ := pair_rd (t := tIntS) (u := u) (vs := [v]) (us := vs) rfl h
  obtain ⟨a, c, rfl⟩ := row_shape h1
  exact ⟨a, c, rfl, h1, h2⟩
theorem int_rd1 {w : World} {v : Value} {x : Int} (h : intTy.Rd w [v] x) : v = .int .i64 x := by
  obtain ⟨_, h1, _⟩ := h
  simpa using h1
theorem ints_mine_p {u : Ty} {w : World} {v : Value} {vs : List Value} {zs : List Int} {y : u.D} {fp : List Nat} (h : (pairTy tIntS u).Mine w (v :: vs) (zs, y) fp) : ∃ a c f1 f2, v = .slice a zs.length c ∧ fp = f1 ++ f2 ∧ tIntS.Mine w [.slice a zs.length c] zs f1 ∧ u.Mine w vs y f2 ∧ ∀ b ∈ f1, b ∉ f2 := by
  obtain ⟨f1, f2, hf, h1, h2, hd⟩ := pair_mine (t := tIntS) (u := u) (vs := [v]) (us := vs) rfl h
  obtain ⟨a, c, rfl⟩ := row_shape h1.rd
  exact ⟨a, c, f1, f2, rfl, hf, h1, h2, hd⟩
theorem int_mine1 {w : World} {v : Value} {x : Int} {fp : List Nat} (h : intTy.Mine w [v] x fp) : v = .int .i64 x ∧ fp = [] := by
  obtain ⟨⟨h1, h2⟩, _⟩ := h
  exact ⟨by simpa using h1, h2⟩
theorem int_mine1_of {w : World} {x : Int} : intTy.Mine w [.int .i64 x] x [] := ⟨⟨rfl, rfl⟩, by simp⟩
theorem ints_mine_of {u : Ty} {w : World} {v : Value} {vs : List Value} {zs : List Int} {y : u.D} {f1 f2 : List Nat} (h1 : tIntS.Mine w [v] zs f1) (h2 : u.Mine w vs y f2) (hd : ∀ b ∈ f1, b ∉ f2) : (pairTy tIntS u).Mine w (v :: vs) (zs, y) (f1 ++ f2) := pair_mine_of (vs := [v]) h1 h2 hd
theorem ints_rd_of2 {u : Ty} {w : World} {v : Value} {vs : List Value} {zs : List Int} {y : u.D} (h1 : tIntS.Rd w [v] zs) (h2 : u.Rd w vs y) : (pairTy tIntS u).Rd w (v :: vs) (zs, y) := pair_rd_of (vs := [v]) h1 h2
/-- Parts in memory of their own, whatever lies first. -/
theorem pair_own2 {t u : Ty} {w : World} {lo hi l1 u1 l2 u2 : Nat} {vs us : List Value} {x : t.D} {y : u.D} (h1 : t.Own w l1 u1 vs x) (h2 : u.Own w l2 u2 us y) (d : u1 ≤ l2 ∨ u2 ≤ l1) (r1 : lo ≤ l1 ∧ u1 ≤ hi) (r2 : lo ≤ l2 ∧ u2 ≤ hi) : (pairTy t u).Own w lo hi (vs ++ us) (x, y) := by
  obtain ⟨f1, m1, k1⟩ := h1.mine
  obtain ⟨f2, m2, k2⟩ := h2.mine
  refine (pair_mine_of m1 m2 (fun b hb hb' => by have := k1 b hb; have := k2 b hb'; omega)).own (fun b hb => ?_)
  rcases List.mem_append.1 hb with h | h
  · have := k1 b h; omega
  · have := k2 b h; omega
theorem int_own1 {w : World} {lo hi : Nat} {x : Int} : intTy.Own w lo hi [.int .i64 x] x := ⟨[], ⟨rfl, rfl⟩, by simp, by simp⟩

/-- What has been set in the row at g, from its place o on, since w (the last store first); but for that these blocks alone have turned. -/
structure Ed (w w' : World) (g o : Nat) (l : List (Nat × Value)) (fq : List Nat) : Prop where
  cells : ∀ cur T, w.heap[g]? = some (.cells cur T (0, 0)) → w'.heap[g]? = some (.cells (l.foldr (fun p c => c.setIfInBounds (o + p.1) p.2) cur) T (0, 0))
  turned : Turned (g :: fq) w w'
theorem Ed.refl (w : World) (g o : Nat) : Ed w w g o [] [] := ⟨fun _ _ h => h, Turned.refl _ _⟩
theorem Ed.set {w w' : World} {g o : Nat} {l : List (Nat × Value)} {fq : List Nat} (h : Ed w w' g o l fq) (q : Nat) (v : Value) : Ed w (w'.setCell ⟨g, o + q, none⟩ v) g o ((q, v) :: l) fq :=
  ⟨fun cur T hc => heap_setCell_same _ g _ _ T v (h.cells cur T hc), h.turned.trans (Turned.setCell v List.mem_cons_self)⟩
theorem Ed.then {w w' w'' : World} {g o : Nat} {l : List (Nat × Value)} {fa fq : List Nat} (h : Ed w w' g o l fq) (t : Turned fa w' w'') (hg : g ∉ fa) : Ed w w'' g o l (fa ++ fq) :=
  ⟨fun cur T hc => by
    have h1 := h.cells cur T hc
    rw [t.block g (Array.getElem?_eq_some_iff.1 h1).1 hg]
    exact h1, (h.turned.mono (fun b hb => by rcases List.mem_cons.1 hb with e | hb; exact e ▸ List.mem_cons_self; exact List.mem_cons_of_mem _ (List.mem_append_right _ hb))).trans (t.mono (fun b hb => List.mem_cons_of_mem _ (List.mem_append_left _ hb)))⟩

theorem fold_other {o q : Nat} : ∀ (l : List (Nat × Value)) (cur : Array Value), (∀ p ∈ l, p.1 ≠ q) → (l.foldr (fun p c => c.setIfInBounds (o + p.1) p.2) cur)[o + q]? = cur[o + q]?
  | [], _, _ => rfl
  | p :: l, cur, h => by
    simp only [List.foldr_cons]
    rw [Array.getElem?_setIfInBounds_ne (by have := h p List.mem_cons_self; omega)]
    exact fold_other l cur (fun x hx => h x (List.mem_cons_of_mem _ hx))
theorem Ed.cellAt {w w' : World} {g o : Nat} {l : List (Nat × Value)} {fq : List Nat} {cur : Array Value} {T : TypeId} (h : Ed w w' g o l fq) (q : Nat) (hc : w.heap[g]? = some (.cells cur T (0, 0))) (hq : ∀ p ∈ l, p.1 ≠ q) : w'.cell? ⟨g, o + q, none⟩ = w.cell? ⟨g, o + q, none⟩ := by
  rw [cell_of_row w' g _ _ T (0, 0) (h.cells cur T hc), cell_of_row w g _ cur T (0, 0) hc, fold_other l cur hq]
theorem Ed.free {w w' : World} {g o : Nat} {l : List (Nat × Value)} {fq : List Nat} {cur : Array Value} {T : TypeId} (h : Ed w w' g o l fq) (hc : w.heap[g]? = some (.cells cur T (0, 0))) (k : Nat) : w'.frozen? ⟨g, k, none⟩ = false := frozen_of_row w' g k _ T (h.cells cur T hc)
theorem mine_block {t : Ty} {E : TypeId} {w : World} {g n cap : Nat} {d : List t.D} {fp : List Nat} (h : (rowTy t E).Mine w [.slice (some ⟨g, 0, none⟩) n cap] d fp) : ∃ cur, w.heap[g]? = some (.cells cur E (0, 0)) := by
  rcases h.1 with ⟨h1, _⟩ | ⟨b, cap', cur, fps, h1, h2, h3, h4, _⟩
  · simp at h1
  · simp only [List.cons.injEq, Value.slice.injEq, Option.some.injEq, Addr.mk.injEq, and_true] at h1
    obtain ⟨rfl, rfl, rfl⟩ := h1
    exact ⟨cur, h4⟩

theorem edit_cells {o n : Nat} {cs : List Value} : ∀ (l : List (Nat × Value)) (cur : Array Value), o + n ≤ cur.size → (∀ q, q < n → cur.toList[o + q]? = cs[q]?) → cs.length = n → (∀ p ∈ l, p.1 < n) →
    (l.foldr (fun p c => c.setIfInBounds (o + p.1) p.2) cur).size = cur.size ∧ (l.foldr (fun p c => c.set p.1 p.2) cs).length = n ∧ (∀ q, q < n → (l.foldr (fun p c => c.setIfInBounds (o + p.1) p.2) cur).toList[o + q]? = (l.foldr (fun p c => c.set p.1 p.2) cs)[q]?) ∧ ∀ k, (k < o ∨ o + n ≤ k) → (l.foldr (fun p c => c.setIfInBounds (o + p.1) p.2) cur).toList[k]? = cur.toList[k]?
  | [], _, _, hq, hl, _ => ⟨rfl, hl, hq, fun _ _ => rfl⟩
  | p :: l, cur, hs, hq, hl, hp => by
    obtain ⟨h1, h0, h2, h3⟩ := edit_cells l cur hs hq hl (fun x hx => hp x (List.mem_cons_of_mem _ hx))
    have hpn := hp p List.mem_cons_self
    simp only [List.foldr_cons]
    refine ⟨by simp [h1], by simp [h0], fun q hqn => ?_, fun k hk => ?_⟩
    · rw [Array.toList_setIfInBounds]
      by_cases e : q = p.1
      · subst e
        rw [List.getElem?_set_self (by simp [h1]; omega), List.getElem?_set_self (by omega)]
      · rw [List.getElem?_set_ne (by omega), List.getElem?_set_ne (by omega), h2 q hqn]
    · rw [Array.toList_setIfInBounds, List.getElem?_set_ne (by omega), h3 k hk]

/-- The row behind the stores, as an opened element is put back. -/
theorem ed_back {n g cap j m : Nat} {cs cs' : List Value} {w w' : World} {l : List (Nat × Value)} {fq : List Nat} {E : TypeId} (h : Ed w w' g (j * n) l fq) (hcc : ∀ k, k < n → w.cell? ⟨g, j * n + k, none⟩ = cs[k]?) (hj : j < m) (he : l.foldr (fun p c => c.set p.1 p.2) cs = cs') (hl : (∀ p ∈ l, p.1 < n) := by simp) (hcl : cs.length = n := by rfl) :
    ∀ cur, w.heap[g]? = some (.cells cur E (0, 0)) → cur.size = cap * n → m ≤ cap → ∃ cur', w'.heap[g]? = some (.cells cur' E (0, 0)) ∧ cur'.size = cur.size ∧ ∀ k, cur'.toList[k]? = if j * n ≤ k ∧ k < (j + 1) * n then cs'[k - j * n]? else cur.toList[k]? := fun cur hc hs hm => by
  have hle : (j + 1) * n ≤ cap * n := Nat.mul_le_mul_right _ (by omega)
  rw [Nat.add_mul, Nat.one_mul] at hle
  obtain ⟨h1, _, h2, h3⟩ := edit_cells (cs := cs) l cur (o := j * n) (n := n) (by omega) (fun q hq => by rw [← hcc q hq, cell_of_row w g _ cur E (0, 0) hc, Array.getElem?_toList]) hcl hl
  refine ⟨_, h.cells cur E hc, h1, fun k => ?_⟩
  by_cases hk : j * n ≤ k ∧ k < (j + 1) * n
  · rw [if_pos hk, ← he]
    have := h2 (k - j * n) (by rw [Nat.add_mul, Nat.one_mul] at hk; omega)
    rwa [show j * n + (k - j * n) = k by omega] at this
  · rw [if_neg hk]
    exact h3 k (by rw [Nat.add_mul, Nat.one_mul] at hk; omega)

end Go.Proofs.Ytgjldmjlbhkgbaa

/-
  Plain lemmas by which a walk goes on in a world of which only what was said is known: behind a new block, behind stores into one. No condition.
-/
namespace Go.Proofs.Ytgjldmjlbhkgbaa
open Go.RowKit

section
variable {P : Program} {F : FuncId} {args : Array Value} {w W : World} {T T2 T3 : TypeId} {cs cs2 cs3 : Array Value} {R : Ending → World → Prop} {c : Code} {Q : Exit → Act → World → Prop} {a : Act}
/-- Behind what a callee's parameters and variables lie in. -/
theorem seal_new (h : ∀ V, Box V w.heap.size T cs → Below w.heap.size w V → Calls P F args V R) : Calls P F args (w.alloc (.cells cs T)) R := h _ (Box.new _ _ _) (new_below _ _)
theorem seal_new2 (h : ∀ V, Box V w.heap.size T cs → Box V (w.heap.size + 1) T2 cs2 → Below w.heap.size w V → Calls P F args V R) : Calls P F args ((w.alloc (.cells cs T)).alloc (.cells cs2 T2)) R :=
  h _ ((Box.new _ _ _).alloc _) (by have := Box.new (w.alloc (.cells cs T)) T2 cs2; rwa [World.size_alloc] at this) ((new_below _ _).alloc (by simp) _)
theorem seal_new3 (h : ∀ V, Box V w.heap.size T cs → Box V (w.heap.size + 1) T2 cs2 → Box V (w.heap.size + 1 + 1) T3 cs3 → Below w.heap.size w V → Calls P F args V R) : Calls P F args (((w.alloc (.cells cs T)).alloc (.cells cs2 T2)).alloc (.cells cs3 T3)) R :=
  h _ (((Box.new _ _ _).alloc _).alloc _) (by have := (Box.new (w.alloc (.cells cs T)) T2 cs2).alloc (.cells cs3 T3); rwa [World.size_alloc] at this) (by have := Box.new ((w.alloc (.cells cs T)).alloc (.cells cs2 T2)) T3 cs3; rwa [World.size_alloc, World.size_alloc] at this) (((new_below _ _).alloc (by simp) _).alloc (by simp; omega) _)

/-- A block that holds these cells; since w0 nothing else has turned. -/
structure BoxAt (w0 w : World) (B : Nat) (T : TypeId) (l : List Value) : Prop where
  box : Box w B T l.toArray
  but : But B (B + 1) w0 w
  size : w.heap.size = w0.heap.size
theorem Box.at {w : World} {B : Nat} {T : TypeId} {l : List Value} (h : Box w B T l.toArray) : BoxAt w w B T l := ⟨h, But.refl _ _ _, rfl⟩
theorem BoxAt.set {w0 w : World} {B : Nat} {T : TypeId} {l : List Value} (h : BoxAt w0 w B T l) (j : Nat) (v : Value) : BoxAt w0 (w.setCell ⟨B, j, none⟩ v) B T (l.set j v) :=
  ⟨by have := h.box.set j v; simpa using this, h.but.trans (But.setCell (Nat.le_refl _) (Nat.lt_succ_self _) v), by simp [h.size]⟩
theorem BoxAt.other {w0 w : World} {B C : Nat} {T U : TypeId} {l : List Value} {cs : Array Value} (h : BoxAt w0 w B T l) (x : Box w0 C U cs) (hne : C ≠ B) : Box w C U cs := x.kept (h.but.block C x.lt (by omega))
theorem BoxAt.own {w0 w : World} {B lo hi : Nat} {T : TypeId} {l : List Value} {t : Ty} {vs : List Value} {d : t.D} (h : BoxAt w0 w B T l) (o : t.Own w0 lo hi vs d) (hB : B < lo ∨ hi ≤ B) : t.Own w lo hi vs d := o.but h.but (by omega)
theorem BoxAt.below {w0 w w1 : World} {B : Nat} {T : TypeId} {l : List Value} (h : BoxAt w0 w B T l) (b : Below w1.heap.size w1 w0) (hB : w1.heap.size ≤ B) : Below w1.heap.size w1 w := Below.andBut b h.but hB
/-- .. and the walk goes on. -/
theorem seal_at {w0 : World} {B : Nat} {l : List Value} (E : BoxAt w0 W B T l) (h : ∀ V, BoxAt w0 V B T l → Calls P F args V R) : Calls P F args W R := h W E
theorem seal_atC {w0 : World} {B : Nat} {l : List Value} (E : BoxAt w0 W B T l) (h : ∀ V, BoxAt w0 V B T l → Code.wp P c Q a V) : Code.wp P c Q a W := h W E
end
theorem But.set {lo hi : Nat} {a w : World} {g j : Nat} (h : But lo hi a w) (h1 : lo ≤ g) (h2 : g < hi) (v : Value) : But lo hi a (w.setCell ⟨g, j, none⟩ v) := h.trans (But.setCell h1 h2 v)
theorem But.cells {lo hi : Nat} {g : Nat} (h1 : lo ≤ g) (h2 : g < hi) : ∀ (vs : List Value) (o : Nat) (w0 : World), But lo hi w0 (w0.setCells g o vs)
  | [], _, _ => But.refl _ _ _
  | v :: vs, o, _ => (But.setCell h1 h2 v).trans (But.cells h1 h2 vs (o + 1) _)
theorem Box.cells8e {w : World} {B : Nat} {T : TypeId} {v0 v1 v2 v3 v4 v5 v6 v7 : Value} (h : Box w B T #[v0, v1, v2, v3, v4, v5, v6, v7]) : w.cell? ⟨B, 0, none⟩ = some v0 ∧ w.cell? ⟨B, 1, none⟩ = some v1 ∧ w.cell? ⟨B, 2, none⟩ = some v2 ∧ w.cell? ⟨B, 3, none⟩ = some v3 ∧ w.cell? ⟨B, 4, none⟩ = some v4 ∧ w.cell? ⟨B, 5, none⟩ = some v5 ∧ w.cell? ⟨B, 6, none⟩ = some v6 ∧ w.cell? ⟨B, 7, none⟩ = some v7 := ⟨h.cell 0, h.cell 1, h.cell 2, h.cell 3, h.cell 4, h.cell 5, h.cell 6, h.cell 7⟩
end Go.Proofs.Ytgjldmjlbhkgbaa

/-
  The walks of both Blocks and of what tells a stripe (the program's and the specification's). No condition.
-/
namespace Go.Proofs.Ytgjldmjlbhkgbaa
open Go.RowKit

theorem stripeB_of {n s t : Int} : stripeB n s t = true ↔ geoB n s = true ∧ 0 ≤ t ∧ t < s := by unfold stripeB; rw [Bool.and_eq_true, inB_iff]; constructor <;> (rintro ⟨a, b⟩; exact ⟨a, by omega⟩)
theorem stripeB_not {n s t : Int} : stripeB n s t = false ↔ ¬ (geoB n s = true ∧ 0 ≤ t ∧ t < s) := by rw [← stripeB_of]; simp

theorem blockB_of {n s b : Int} : blockB n s b = true ↔ 0 ≤ b ∧ b < blocksN n s := by unfold blockB; rw [inB_iff]; omega
theorem blockB_not {n s b : Int} : blockB n s b = false ↔ ¬ (0 ≤ b ∧ b < blocksN n s) := by rw [← blockB_of]; simp
theorem blockB_geo {n s b : Int} (h : blockB n s b = true) : geoB n s = true := by
  rw [blockB_of] at h
  by_cases hg : geoB n s = true
  · exact hg
  · rw [blocksN_not (by simpa using hg)] at h
    omega

end Go.Proofs.Ytgjldmjlbhkgbaa

/-
  A command is four numbers and a slice of them: what both sides answer of its size, its code, its span, as plain definitions; and the laws' helpers over one command: its weight, its copy, whether two are the same, its marks. Conditions: at most 2097152 words (1048576 for a copy).
-/
namespace Go.Proofs.Ytgjldmjlbhkgbaa
open Go.RowKit

/-- How many blocks a command has. -/
def lenC (o k : Int) (zs : List Int) : Int := if o = 1 ∨ o = 6 then k else if o = 2 ∨ o = 3 then (zs.length : Int) else if o = 5 then 1 else 0
def sizeC (o k : Int) (zs : List Int) : Bool := if o = 1 ∨ o = 6 then inB k 1 6 else if o = 2 ∨ o = 3 then inB (zs.length : Int) 1 6 && allW zs else if o = 5 then zs.length == 2 && allW zs else true
def formC (gn gs o d : Int) : Bool := geoB gn gs && inB o 1 6 && inB d 1 999
/-- Whether its blocks are there (of what names blocks). -/
def roomC (gn gs o b k : Int) (zs : List Int) : Bool := inB b 0 (blocksN gn gs - lenC o k zs)
def restC (gn gs o b k : Int) (zs : List Int) : Int := if sizeC o k zs = true then (if o = 4 ∨ roomC gn gs o b k zs = true then 0 else 2) else 3
def codeC (gn gs o d b k : Int) (zs : List Int) : Int := if formC gn gs o d = true then restC gn gs o b k zs else 1
def spanC (gn gs o d b k : Int) (zs : List Int) : Int × Int := if codeC gn gs o d b k zs = 0 then (if o = 4 then (0, blocksN gn gs) else (b, b + lenC o k zs)) else (0, 0)
/-- Whether two spans have a block in common. -/
def metC (x y : Int × Int) : Bool := decide (x.1 < y.2) && decide (y.1 < x.2)

theorem len1 {o k : Int} {zs : List Int} (h : o = 1 ∨ o = 6) : lenC o k zs = k := by unfold lenC; rw [if_pos h]
theorem len2 {o k : Int} {zs : List Int} (h : o = 2 ∨ o = 3) : lenC o k zs = zs.length := by unfold lenC; rw [if_neg (by omega), if_pos h]
theorem len5 {k : Int} {zs : List Int} : lenC 5 k zs = 1 := by simp [lenC]
theorem len0 {o k : Int} {zs : List Int} (h : ¬ (o = 1 ∨ o = 6)) (h2 : ¬ (o = 2 ∨ o = 3)) (h5 : ¬ o = 5) : lenC o k zs = 0 := by unfold lenC; rw [if_neg h, if_neg h2, if_neg h5]
theorem size1 {o k : Int} {zs : List Int} (h : o = 1 ∨ o = 6) : sizeC o k zs = inB k 1 6 := by unfold sizeC; rw [if_pos h]
theorem size2 {o k : Int} {zs : List Int} (h : o = 2 ∨ o = 3) : sizeC o k zs = (inB (zs.length : Int) 1 6 && allW zs) := by unfold sizeC; rw [if_neg (by omega), if_pos h]
theorem size5 {k : Int} {zs : List Int} : sizeC 5 k zs = (zs.length == 2 && allW zs) := by simp [sizeC]
theorem size0 {o k : Int} {zs : List Int} (h : ¬ (o = 1 ∨ o = 6)) (h2 : ¬ (o = 2 ∨ o = 3)) (h5 : ¬ o = 5) : sizeC o k zs = true := by unfold sizeC; rw [if_neg h, if_neg h2, if_neg h5]
theorem size_room {o k : Int} {zs : List Int} (h : o = 1 ∨ o = 6) : sizeC o k zs = inB (lenC o k zs) 1 6 := by rw [size1 h, len1 h]
/-- What is of a right size has at most six blocks. -/
theorem size_len {o k : Int} {zs : List Int} (h : sizeC o k zs = true) : 0 ≤ lenC o k zs ∧ lenC o k zs ≤ 6 ∧ (o ≠ 4 → inB o 1 6 = true → 1 ≤ lenC o k zs) := by
  by_cases h1 : o = 1 ∨ o = 6
  · rw [size1 h1, inB_iff] at h
    rw [len1 h1]
    omega
  · by_cases h2 : o = 2 ∨ o = 3
    · rw [size2 h2, Bool.and_eq_true, inB_iff] at h
      rw [len2 h2]
      omega
    · by_cases h5 : o = 5
      · subst h5
        rw [len5]
        omega
      · rw [len0 h1 h2 h5]
        refine ⟨by omega, by omega, fun h4 h => ?_⟩
        rw [inB_iff] at h
        omega
theorem rest_bad13 {gn gs o b k : Int} {zs : List Int} (h : sizeC o k zs = false) : restC gn gs o b k zs = 3 := by unfold restC; rw [if_neg (by simp [h])]
theorem rest_flush {gn gs b k : Int} {zs : List Int} : restC gn gs 4 b k zs = 0 := by simp [restC, sizeC]
theorem rest_in {gn gs o b k : Int} {zs : List Int} (h : sizeC o k zs = true) (h2 : roomC gn gs o b k zs = true) : restC gn gs o b k zs = 0 := by unfold restC; rw [if_pos h, if_pos (.inr h2)]
theorem rest_out {gn gs o b k : Int} {zs : List Int} (h : sizeC o k zs = true) (h4 : ¬ o = 4) (h2 : roomC gn gs o b k zs = false) : restC gn gs o b k zs = 2 := by unfold restC; rw [if_pos h, if_neg (by simp [h4, h2])]
theorem code_form {gn gs o d b k : Int} {zs : List Int} (h : formC gn gs o d = false) : codeC gn gs o d b k zs = 1 := by unfold codeC; rw [if_neg (by simp [h])]
theorem code_rest {gn gs o d b k : Int} {zs : List Int} (h : formC gn gs o d = true) : codeC gn gs o d b k zs = restC gn gs o b k zs := by unfold codeC; rw [if_pos h]
theorem form_geo {gn gs o d : Int} (h : geoB gn gs = false) : formC gn gs o d = false := by unfold formC; rw [h]; rfl
theorem form_op {gn gs o d : Int} (h : inB o 1 6 = false) : formC gn gs o d = false := by unfold formC; rw [h]; simp
theorem form_id {gn gs o d : Int} (h : inB d 1 999 = false) : formC gn gs o d = false := by unfold formC; rw [h]; simp
theorem form_all {gn gs o d : Int} (h1 : geoB gn gs = true) (h2 : inB o 1 6 = true) (h3 : inB d 1 999 = true) : formC gn gs o d = true := by unfold formC; rw [h1, h2, h3]; rfl
theorem code_range (gn gs o d b k : Int) (zs : List Int) : 0 ≤ codeC gn gs o d b k zs ∧ codeC gn gs o d b k zs ≤ 3 := by
  unfold codeC restC
  split <;> (try split) <;> (try split) <;> omega
theorem code_good13 {gn gs o d b k : Int} {zs : List Int} (h : codeC gn gs o d b k zs = 0) : formC gn gs o d = true ∧ sizeC o k zs = true ∧ (o = 4 ∨ (0 ≤ b ∧ b + lenC o k zs ≤ blocksN gn gs)) := by
  unfold codeC restC at h
  split at h
  · rename_i hf
    split at h
    · rename_i hs
      split at h
      · rename_i hr
        refine ⟨hf, hs, ?_⟩
        rcases hr with h4 | hr
        · exact .inl h4
        · unfold roomC at hr
          rw [inB_iff] at hr
          exact .inr (by omega)
      · omega
    · omega
  · omega
theorem span_bad {gn gs o d b k : Int} {zs : List Int} (h : ¬ codeC gn gs o d b k zs = 0) : spanC gn gs o d b k zs = (0, 0) := by unfold spanC; rw [if_neg h]
theorem span_flush {gn gs d b k : Int} {zs : List Int} (h : codeC gn gs 4 d b k zs = 0) : spanC gn gs 4 d b k zs = (0, blocksN gn gs) := by unfold spanC; rw [if_pos h, if_pos rfl]
theorem span_own {gn gs o d b k : Int} {zs : List Int} (h : codeC gn gs o d b k zs = 0) (h4 : ¬ o = 4) : spanC gn gs o d b k zs = (b, b + lenC o k zs) := by unfold spanC; rw [if_pos h, if_neg h4]
theorem span_range (gn gs o d b k : Int) (zs : List Int) : 0 ≤ (spanC gn gs o d b k zs).1 ∧ (spanC gn gs o d b k zs).1 ≤ (spanC gn gs o d b k zs).2 ∧ (spanC gn gs o d b k zs).2 ≤ blocksN gn gs := by
  have hr := blocksN_range gn gs
  by_cases h : codeC gn gs o d b k zs = 0
  · obtain ⟨_, hs, hr'⟩ := code_good13 h
    obtain ⟨hl, _, _⟩ := size_len hs
    by_cases h4 : o = 4
    · subst h4
      rw [span_flush h]
      exact ⟨Int.le_refl _, hr.1, Int.le_refl _⟩
    · rw [span_own h h4]
      rcases hr' with h4' | hr'
      · exact absurd h4' h4
      · exact ⟨hr'.1, by show b ≤ b + lenC o k zs; omega, hr'.2⟩
  · rw [span_bad h]
    exact ⟨Int.le_refl _, Int.le_refl _, hr.1⟩
theorem secB_six {zs : List Int} (h : inB (zs.length : Int) 1 6 = true) : secB zs = allW zs := by
  rw [inB_iff] at h
  unfold secB
  rw [decide_eq_true (by omega)]
  rfl
theorem secB_two {zs : List Int} (h : zs.length = 2) : secB zs = allW zs := secB_six (by rw [inB_iff]; omega)

theorem two_len {zs : List Int} (h : zs.length = 2) : ((zs.length : Int) == 2) = true ∧ ((zs.length : Int) != 2) = false := by rw [h]; exact ⟨rfl, rfl⟩
theorem two_len' {zs : List Int} (h : ¬ zs.length = 2) : ((zs.length : Int) == 2) = false ∧ ((zs.length : Int) != 2) = true := by
  have : ((zs.length : Int) == 2) = false := by simp; omega
  exact ⟨this, by unfold bne; rw [this]; rfl⟩

theorem Box.cells5 {w : World} {B : Nat} {T : TypeId} {v0 v1 v2 v3 v4 : Value} (h : Box w B T #[v0, v1, v2, v3, v4]) : w.cell? ⟨B, 0, none⟩ = some v0 ∧ w.cell? ⟨B, 1, none⟩ = some v1 ∧ w.cell? ⟨B, 2, none⟩ = some v2 ∧ w.cell? ⟨B, 3, none⟩ = some v3 ∧ w.cell? ⟨B, 4, none⟩ = some v4 := ⟨h.cell 0, h.cell 1, h.cell 2, h.cell 3, h.cell 4⟩

set_option maxHeartbeats 1600000 in
theorem eqCmd_same (w : World) (o d b k : Int) (a a' : Option Addr) (la ca cb : Nat) (zs : List Int) (hl : zs.length = la) (h : Reads .i64 w a zs) (h' : Reads .i64 w a' zs) (hla : la ≤ 2097152) :
    Calls Try.prog 39 #[.agg #[.int .i64 o, .int .i64 d, .int .i64 b, .int .i64 k, .slice a la ca], .agg #[.int .i64 o, .int .i64 d, .int .i64 b, .int .i64 k, .slice a' la cb]] w fun e w' => e = .returned (.bool true) ∧ Below w.heap.size w w' := by
  have hA : Below w.heap.size w ((w.alloc (.cells #[.int .i64 o, .int .i64 d, .int .i64 b, .int .i64 k, .slice a la ca] 70)).alloc (.cells #[.int .i64 o, .int .i64 d, .int .i64 b, .int .i64 k, .slice a' la cb] 70)) := ((Below.refl _ _).alloc (Nat.le_refl _) _).alloc (by simp) _
  have r1 := h.below hA
  have r2 := h'.below hA
  have hd : decide (zs = zs) = true := by simp
  go_enter Try.func39, Try.ntmps39
  go_wp2_with fail
  refine (eqIntS_any _ _ _ _ _ _ _ zs zs hl hl r1 r2 hla).mono ?_
  rintro e w1 ⟨rfl, hs1⟩
  go_wp2
  go_ret
  exact ⟨rfl, Below.andSame hA hs1⟩

end Go.Proofs.Ytgjldmjlbhkgbaa

/-
  The laws' helpers over one answer: whether two are the same, its marks. Conditions: at most 2097152 words, marks between 0 and 16777216.
-/
namespace Go.Proofs.Ytgjldmjlbhkgbaa
open Go.RowKit

set_option maxHeartbeats 1600000 in
theorem eqAns_same (w : World) (d c : Int) (a a' : Option Addr) (la ca cb : Nat) (zs : List Int) (h : tIntS.Rd w [.slice a la ca] zs) (h' : tIntS.Rd w [.slice a' la cb] zs) (hla : la ≤ 2097152) :
    Calls Try.prog 41 #[.agg #[.int .i64 d, .int .i64 c, .slice a la ca], .agg #[.int .i64 d, .int .i64 c, .slice a' la cb]] w fun e w' => e = .returned (.bool true) ∧ Below w.heap.size w w' := by
  have hA : Below w.heap.size w ((w.alloc (.cells #[.int .i64 d, .int .i64 c, .slice a la ca] 76)).alloc (.cells #[.int .i64 d, .int .i64 c, .slice a' la cb] 76)) := ((Below.refl _ _).alloc (Nat.le_refl _) _).alloc (by simp) _
  obtain ⟨r1, hl, _, _⟩ := ints_rd (h.below hA)
  obtain ⟨r2, _, _, _⟩ := ints_rd (h'.below hA)
  have hd : decide (zs = zs) = true := by simp
  go_enter Try.func41, Try.ntmps41
  go_wp2_with fail
  refine (eqIntS_any _ _ _ _ _ _ _ zs zs hl hl r1 r2 hla).mono ?_
  rintro e w1 ⟨rfl, hs1⟩
  go_wp2
  go_ret
  exact ⟨rfl, Below.andSame hA hs1⟩

end Go.Proofs.Ytgjldmjlbhkgbaa

/-
  The laws' helpers over one answer, one job and one turn: what is left of a bound, the copy, the comparison of two that read alike. Conditions: at most 1048576 words (2097152 for the comparison).
-/
namespace Go.Proofs.Ytgjldmjlbhkgbaa
open Go.RowKit

abbrev tJob : Ty := pairTy intTy (pairTy intTy (pairTy intTy (pairTy intTy (pairTy tIntS (pairTy intTy (pairTy tIntS (intTy)))))))
abbrev tTurn : Ty := pairTy intTy (pairTy intTy (pairTy intTy (pairTy intTy (pairTy tIntS (pairTy intTy (pairTy intTy (tIntS)))))))
abbrev JobD := Int × Int × Int × Int × List Int × Int × List Int × Int
abbrev TurnD := Int × Int × Int × Int × List Int × Int × Int × List Int
abbrev tJobS (E : TypeId) : Ty := rowTy tJob E
abbrev tTurnS (E : TypeId) : Ty := rowTy tTurn E
theorem Box.cells3e {w : World} {B : Nat} {T : TypeId} {v0 v1 v2 : Value} (h : Box w B T #[v0, v1, v2]) : w.cell? ⟨B, 0, none⟩ = some v0 ∧ w.cell? ⟨B, 1, none⟩ = some v1 ∧ w.cell? ⟨B, 2, none⟩ = some v2 := ⟨h.cell 0, h.cell 1, h.cell 2⟩

set_option maxHeartbeats 3200000 in
theorem eqJob_same (w : World) (o d1 b1 k t1 q1 : Int) (a0 a1 e0 e1 : Option Addr) (c0 c1 g0 g1 : Nat) (zs gs : List Int) (r0 : tIntS.Rd w [.slice a0 zs.length c0] zs) (s0 : tIntS.Rd w [.slice e0 zs.length g0] zs) (r1 : tIntS.Rd w [.slice a1 gs.length c1] gs) (s1 : tIntS.Rd w [.slice e1 gs.length g1] gs) (hw : zs.length + gs.length ≤ 2097152) :
    Calls Try.prog 40 #[.agg #[.int .i64 o, .int .i64 d1, .int .i64 b1, .int .i64 k, .slice a0 zs.length c0, .int .i64 t1, .slice a1 gs.length c1, .int .i64 q1], .agg #[.int .i64 o, .int .i64 d1, .int .i64 b1, .int .i64 k, .slice e0 zs.length g0, .int .i64 t1, .slice e1 gs.length g1, .int .i64 q1]] w fun e w' => e = .returned (.bool true) ∧ Below w.heap.size w w' := by
  have hd : decide (gs = gs) = true := by simp
  go_enter Try.func40, Try.ntmps40
  go_wp2_with fail
  refine seal_new2 ?_
  intro V A X hA
  refine (eqCmd_same _ o d1 b1 k _ _ _ _ _ zs rfl (ints_rd (r0.below hA)).1 (ints_rd (s0.below hA)).1 (by omega)).mono ?_
  rintro e w1 ⟨rfl, b⟩
  have B := Below.andThen hA b
  have A := A.below b A.lt
  have X := X.below b X.lt
  obtain ⟨k0, k1, k2, k3, k4, k5, k6, k7⟩ := A.cells8e
  obtain ⟨o0, o1, o2, o3, o4, o5, o6, o7⟩ := X.cells8e
  clear hA b
  go_wp2_with fail
  refine (eqIntS_any _ _ _ _ _ _ _ gs gs rfl rfl (ints_rd (r1.below B)).1 (ints_rd (s1.below B)).1 (by omega)).mono ?_
  rintro e w2 ⟨rfl, hs⟩
  have B2 := Below.andSame B hs
  obtain ⟨k0, k1, k2, k3, k4, k5, k6, k7⟩ := (A.same hs).cells8e
  obtain ⟨o0, o1, o2, o3, o4, o5, o6, o7⟩ := (X.same hs).cells8e
  clear A X B hs
  go_wp2
  go_ret
  exact ⟨rfl, B2⟩

set_option maxHeartbeats 3200000 in
theorem eqTurn_same (w : World) (o d1 b1 k d2 q1 : Int) (a0 a1 e0 e1 : Option Addr) (c0 c1 g0 g1 : Nat) (zs ys : List Int) (r0 : tIntS.Rd w [.slice a0 zs.length c0] zs) (s0 : tIntS.Rd w [.slice e0 zs.length g0] zs) (r1 : tIntS.Rd w [.slice a1 ys.length c1] ys) (s1 : tIntS.Rd w [.slice e1 ys.length g1] ys) (hw : zs.length + ys.length ≤ 2097152) :
    Calls Try.prog 42 #[.agg #[.int .i64 o, .int .i64 d1, .int .i64 b1, .int .i64 k, .slice a0 zs.length c0, .int .i64 d2, .int .i64 q1, .slice a1 ys.length c1], .agg #[.int .i64 o, .int .i64 d1, .int .i64 b1, .int .i64 k, .slice e0 zs.length g0, .int .i64 d2, .int .i64 q1, .slice e1 ys.length g1]] w fun e w' => e = .returned (.bool true) ∧ Below w.heap.size w w' := by
  have hd : decide (ys = ys) = true := by simp
  go_enter Try.func42, Try.ntmps42
  go_wp2_with fail
  refine seal_new2 ?_
  intro V A X hA
  refine (eqCmd_same _ o d1 b1 k _ _ _ _ _ zs rfl (ints_rd (r0.below hA)).1 (ints_rd (s0.below hA)).1 (by omega)).mono ?_
  rintro e w1 ⟨rfl, b⟩
  have B := Below.andThen hA b
  have A := A.below b A.lt
  have X := X.below b X.lt
  obtain ⟨k0, k1, k2, k3, k4, k5, k6, k7⟩ := A.cells8e
  obtain ⟨o0, o1, o2, o3, o4, o5, o6, o7⟩ := X.cells8e
  clear hA b
  go_wp2_with fail
  refine (eqAns_same _ d2 q1 _ _ _ _ _ ys (r1.below B) (s1.below B) (by omega)).mono ?_
  rintro e w2 ⟨rfl, b2⟩
  have B2 := Below.andThen B b2
  clear A X B b2
  go_wp2
  go_ret
  exact ⟨rfl, B2⟩

end Go.Proofs.Ytgjldmjlbhkgbaa

/-
  The laws' helpers over slices of answers. Conditions: at most 1048576 in all (marks up to 16777216).
-/
namespace Go.Proofs.Ytgjldmjlbhkgbaa
open Go.RowKit

def wttAnsS (d : List AnsD) : Nat := d.length + sumL (d.map fun x => x.2.2.length)
theorem ans_inner {d : List AnsD} {j : Nat} {x : AnsD} (h : d[j]? = some x) : x.2.2.length + sumL ((d.map fun x => x.2.2.length).take j) ≤ sumL (d.map fun x => x.2.2.length) := by
  have h1 := sumL_take (l := d.map fun x => x.2.2.length) (j := j) (x := x.2.2.length) (by rw [List.getElem?_map, h]; rfl)
  have h2 := sumL_le (l := d.map fun x => x.2.2.length) (j + 1)
  omega
/-- A slice of such, at an index. -/
theorem ansS_at {E : TypeId} {w : World} {a : Option Addr} {n cap : Nat} {d : List AnsD} (h : (tAnsS E).Rd w [.slice a n cap] d) :
    n = 0 ∨ ∃ b off, a = some ⟨b, off, none⟩ ∧ b < w.heap.size ∧ ∀ (i : Nat) (d1 c1 : Int) (zs : List Int), d[i]? = some (d1, c1, zs) → ∃ av cv, w.cell? ⟨b, off + i * 3, none⟩ = some (.int .i64 d1) ∧ w.cell? ⟨b, off + i * 3 + 1, none⟩ = some (.int .i64 c1) ∧ w.cell? ⟨b, off + i * 3 + 2, none⟩ = some (.slice av zs.length cv) ∧ tIntS.Rd w [.slice av zs.length cv] zs := by
  rcases rowN_at h with h0 | ⟨b, off, ha, hlt, hc⟩
  · exact .inl h0
  · refine .inr ⟨b, off, ha, hlt, fun i d1 c1 zs hi => ?_⟩
    obtain ⟨cs, hl, hr, hcc⟩ := hc i _ hi
    obtain ⟨v0, v1, v2, rfl⟩ : ∃ v0 v1 v2, cs = [v0, v1, v2] := by
      match cs, hl with
      | [v0, v1, v2], _ => exact ⟨v0, v1, v2, rfl⟩
    obtain ⟨rfl, hr0⟩ := int_rd hr
    obtain ⟨rfl, hr1⟩ := int_rd hr0
    obtain ⟨av, cv, rfl⟩ := row_shape hr1
    exact ⟨av, cv, hcc 0 (by show 0 < 3; omega), hcc 1 (by show 1 < 3; omega), hcc 2 (by show 2 < 3; omega), hr1⟩

set_option maxHeartbeats 1600000 in
theorem eqAnsS_same (w : World) (E E' : TypeId) (a a' : Option Addr) (n ca cb : Nat) (d : List AnsD) (h : (tAnsS E).Rd w [.slice a n ca] d) (h' : (tAnsS E').Rd w [.slice a' n cb] d) (hw : wttAnsS d ≤ 2097152) :
    Calls Try.prog 15 #[.slice a n ca, .slice a' n cb] w fun e w' => e = .returned (.bool true) ∧ Below w.heap.size w w' := by
  obtain ⟨hl, hc, hm⟩ := row_length h
  have hn : n ≤ 2097152 := by unfold wttAnsS at hw; omega
  go_enter Try.func15, Try.ntmps15
  go_wp2
  go_loopw [5] (fun i wr => ∃ j : Nat, j ≤ n ∧ i = .int .i64 j ∧ Below w.heap.size w wr) (fun i _ => n - (intOf i).toNat)
  case atStart => exact ⟨0, Nat.zero_le _, rfl, Below.refl _ _⟩
  case round =>
    obtain ⟨j, hj, rfl, hb⟩ := hrel
    by_cases hjn : j < n
    · rcases ansS_at h with h0' | ⟨b, off, rfl, hbl, hcs⟩
      · omega
      rcases ansS_at h' with h0' | ⟨b2, off2, rfl, hbl2, hcs2⟩
      · omega
      obtain ⟨d1, c1, zs, hdj⟩ : ∃ d1 c1 zs, d[j]? = some (d1, c1, zs) := ⟨_, _, _, List.getElem?_eq_getElem (by omega)⟩
      have hin := ans_inner hdj
      have hlen : zs.length ≤ 2097152 := by unfold wttAnsS at hw; simp only at hin; omega
      obtain ⟨av, cv, hc0, hc1, hc2, hrv⟩ := hcs j d1 c1 zs hdj
      obtain ⟨av2, cv2, hd0, hd1, hd2, hrv2⟩ := hcs2 j d1 c1 zs hdj
      have hw0 := (hb.cell (p := ⟨b, off + j * 3, none⟩) hbl).trans hc0
      have hw1 := (hb.cell (p := ⟨b, off + j * 3 + 1, none⟩) hbl).trans hc1
      have hw2 := (hb.cell (p := ⟨b, off + j * 3 + 2, none⟩) hbl).trans hc2
      have hu0 := (hb.cell (p := ⟨b2, off2 + j * 3, none⟩) hbl2).trans hd0
      have hu1 := (hb.cell (p := ⟨b2, off2 + j * 3 + 1, none⟩) hbl2).trans hd1
      have hu2 := (hb.cell (p := ⟨b2, off2 + j * 3 + 2, none⟩) hbl2).trans hd2
      have r1 := hrv.below hb
      have r2 := hrv2.below hb
      have zx : b < wr.heap.size := Nat.lt_of_lt_of_le hbl hb.size
      have zy : b2 < wr.heap.size := Nat.lt_of_lt_of_le hbl2 hb.size
      have i1 : (0 : Int) ≤ (j : Int) := by omega
      have i2 : (j : Int) < (n : Int) := by omega
      clear hcs hcs2 hdj hc0 hc1 hc2 hd0 hd1 hd2 hrv hrv2 hin
      go_wp2_with fail
      go_region_held3 (fun w' => w'.cell? ⟨b, off + j * 3, none⟩ = some (.int .i64 d1) ∧ w'.cell? ⟨b, off + j * 3 + 1, none⟩ = some (.int .i64 c1) ∧ w'.cell? ⟨b, off + j * 3 + 2, none⟩ = some (.slice av zs.length cv) ∧ w'.cell? ⟨b2, off2 + j * 3, none⟩ = some (.int .i64 d1) ∧ w'.cell? ⟨b2, off2 + j * 3 + 1, none⟩ = some (.int .i64 c1) ∧ w'.cell? ⟨b2, off2 + j * 3 + 2, none⟩ = some (.slice av2 zs.length cv2))
        (first | (exact ⟨(hbC.cell (p := ⟨b, off + j * 3, none⟩) zx).trans hw0, (hbC.cell (p := ⟨b, off + j * 3 + 1, none⟩) zx).trans hw1, (hbC.cell (p := ⟨b, off + j * 3 + 2, none⟩) zx).trans hw2, (hbC.cell (p := ⟨b2, off2 + j * 3, none⟩) zy).trans hu0, (hbC.cell (p := ⟨b2, off2 + j * 3 + 1, none⟩) zy).trans hu1, (hbC.cell (p := ⟨b2, off2 + j * 3 + 2, none⟩) zy).trans hu2⟩) | (exact ⟨hw0, hw1, hw2, hu0, hu1, hu2⟩) | go_keep)
        (first | (go_at_call 41; refine (eqAns_same _ d1 c1 _ _ _ _ _ zs (by exact r1.drew) (by exact r2.drew) hlen).mono ?_; rintro e wC ⟨rfl, hbC0⟩; have hbC : Below wr.heap.size wr wC := (Below.refl wr.heap.size wr).drew.trans hbC0))
      go_wp2
      go_roundw
      case rel => exact ⟨j + 1, by omega, by go_num, Below.andThen hb hbC⟩
      case measure => simp [intOf]; omega
    · go_wp2
      go_ret
      exact ⟨rfl, hb⟩

def cntAns (x : AnsD) : Nat := 2 + x.2.2.length
def markAns1 (k : Int) (x : AnsD) : AnsD := (k, k + 1, marks id (k + 1 + 1) x.2.2.length)
def marktAnsS (k0 : Int) (d : List AnsD) : List AnsD := markL cntAns markAns1 k0 d
def cnttAnsS (d : List AnsD) : Nat := sumL (d.map cntAns)
theorem cnttAnsS_le (d : List AnsD) : cnttAnsS d ≤ 2 * wttAnsS d := by
  unfold cnttAnsS wttAnsS
  induction d with
  | nil => simp [sumL]
  | cons x d ih =>
    simp only [List.map_cons, sumL, List.foldr_cons, List.length_cons] at *
    unfold cntAns at *
    omega

set_option maxHeartbeats 3200000 in
theorem markAnsS_fp (w : World) (a : Option Addr) (n cap : Nat) (d : List AnsD) (k0 : Int) (fp : List Nat) (h : (tAnsS 76).Mine w [.slice a n cap] d fp) (hw : wttAnsS d ≤ 2097152) (hk : 0 ≤ k0) (hk' : k0 + (cnttAnsS d : Int) ≤ 16777216) :
    Calls Try.prog 20 #[.slice a n cap, .int .i64 k0] w fun e w' => e = .returned (.int .i64 (k0 + (cnttAnsS d : Int))) ∧ (tAnsS 76).Mine w' [.slice a n cap] (marktAnsS k0 d) fp ∧ Turned fp w w' := by
  obtain ⟨hl, hc, hm⟩ := row_length h.rd
  have hmL : (marktAnsS k0 d).length = d.length := markL_length _ _ _ _
  have hnn : n ≤ 2097152 := by unfold wttAnsS at hw; omega
  go_enter Try.func20, Try.ntmps20
  go_wp2
  go_loopw [1, 5] (fun kk i wr => ∃ j : Nat, j ≤ n ∧ i = .int .i64 j ∧ kk = .int .i64 (k0 + (sumL ((d.map cntAns).take j) : Int)) ∧ (tAnsS 76).Mine wr [.slice a n cap] ((marktAnsS k0 d).take j ++ d.drop j) fp ∧ Turned fp w wr) (fun _ i _ => n - (intOf i).toNat)
  case atStart => exact ⟨0, Nat.zero_le _, rfl, by simp [sumL], by simpa using h, Turned.refl _ _⟩
  case round =>
    obtain ⟨j, hj, rfl, rfl, ho, hb⟩ := hrel
    by_cases hjn : j < n
    · obtain ⟨d1, c1, zs, hdj⟩ : ∃ d1 c1 zs, d[j]? = some (d1, c1, zs) := ⟨_, _, _, List.getElem?_eq_getElem (by omega)⟩
      have hin := ans_inner hdj
      have hlen : zs.length ≤ 2097152 := by unfold wttAnsS at hw; simp only at hin; omega
      have hst := sumL_take (l := d.map cntAns) (j := j) (x := 2 + zs.length) (by rw [List.getElem?_map, hdj]; rfl)
      have hle := sumL_le (l := d.map cntAns) (j + 1)
      unfold cnttAnsS at hk'
      have HM := hidden (turn_step hmL (markL_at (c := cntAns) (mk := markAns1) (k := k0) hdj))
      have hat := turn_at (m := marktAnsS k0 d) hmL hdj
      have HW := hidden hst
      generalize sumL ((d.map cntAns).take j) = S at hst HM HW
      have hS : k0 + (S : Int) + 2 + zs.length ≤ 16777216 := by omega
      rcases row_ow_shape ho with h0' | ⟨g, rfl⟩
      · omega
      obtain ⟨cs1, f1, ow1, hgf, hgp, hf1, hcc, hfz, _, back⟩ := row_open ho hat
      obtain ⟨v0, v1, v2, rfl⟩ : ∃ v0 v1 v2, cs1 = [v0, v1, v2] := by
        match cs1, tAns.rdLen (tAns.owRd ow1.1) with
        | [v0, v1, v2], _ => exact ⟨v0, v1, v2, rfl⟩
      obtain ⟨rfl, m0⟩ := int_mine ow1
      obtain ⟨rfl, m1⟩ := int_mine m0
      obtain ⟨av, cv, rfl⟩ := row_shape m1.rd
      have hc0 : wr.cell? ⟨g, j * 3, none⟩ = some (.int .i64 d1) := hcc 0 (by show 0 < 3; omega)
      have hc1 : wr.cell? ⟨g, j * 3 + 1, none⟩ = some (.int .i64 c1) := hcc 1 (by show 1 < 3; omega)
      have hc2 : wr.cell? ⟨g, j * 3 + 2, none⟩ = some (.slice av zs.length cv) := hcc 2 (by show 2 < 3; omega)
      have hlt := ho.lt
      have hfq := hfz
      have hT1 : Turned [g] wr ((wr.setCell ⟨g, j * 3, none⟩ (.int .i64 (k0 + (S : Int)))).setCell ⟨g, j * 3 + 1, none⟩ (.int .i64 (k0 + (S : Int) + 1))) := setCells_turned [.int .i64 (k0 + (S : Int)), .int .i64 (k0 + (S : Int) + 1)] (j * 3) wr
      have hmv1 := m1.kept hT1 (fun b hb hb' => hgf (by simp at hb'; exact hb' ▸ hb))
      have HBK := hidden back
      have HOW := hidden hmv1
      have HT1 := hidden hT1
      have HLT := hidden hlt
      have HCL := hidden hc2
      clear hcc back ow1 m0 m1 hat hdj ho hst hmv1 hT1 hlt hfz hin
      go_wp2_with fail
      refine (markIntS_fp _ _ _ _ zs _ f1 HOW.out (by omega) (by omega) (by omega)).mono ?_
      rintro e w2 ⟨rfl, o2, hb2⟩
      have hsz : ((wr.setCell ⟨g, j * 3, none⟩ (.int .i64 (k0 + (S : Int)))).setCell ⟨g, j * 3 + 1, none⟩ (.int .i64 (k0 + (S : Int) + 1))).heap.size = wr.heap.size := setCells_size (g := g) [.int .i64 (k0 + (S : Int)), .int .i64 (k0 + (S : Int) + 1)] (j * 3) wr
      have hglt : g < wr.heap.size := HLT.out g hgp
      have hO := HBK.out w2 [.int .i64 (k0 + (S : Int)), .int .i64 (k0 + (S : Int) + 1), .slice av zs.length cv] (k0 + (S : Int), k0 + (S : Int) + 1, marks id (k0 + (S : Int) + 1 + 1) zs.length)
        (int_mine_of (int_mine_of (o2)))
        (fun b hb hbf hbg => (hb2.block b (by rw [hsz]; exact HLT.out b hb) hbf).trans (HT1.out.block b (HLT.out b hb) (by simpa using hbg)))
        (Nat.le_trans HT1.out.size hb2.size)
        (fun cur hcur hcs hnc => by
          have hcs' : cur.size = cap * 3 := hcs
          have hfit : j * 3 + 2 ≤ cur.size := by omega
          obtain ⟨cur', k1, k2, k3⟩ := setCells_row (E := 76) [.int .i64 (k0 + (S : Int)), .int .i64 (k0 + (S : Int) + 1)] (j * 3) wr cur hcur hfit
          refine ⟨cur', (hb2.block g (by rw [hsz]; exact hglt) hgf).trans k1, k2, fun k => ?_⟩
          have k3' : cur'.toList[k]? = if j * 3 ≤ k ∧ k < j * 3 + 2 then ([.int .i64 (k0 + (S : Int)), .int .i64 (k0 + (S : Int) + 1)] : List Value)[k - j * 3]? else cur.toList[k]? := k3 k
          show cur'.toList[k]? = if j * 3 ≤ k ∧ k < (j + 1) * 3 then ([.int .i64 (k0 + (S : Int)), .int .i64 (k0 + (S : Int) + 1), .slice av zs.length cv] : List Value)[k - j * 3]? else cur.toList[k]?
          rw [k3']
          by_cases h5 : k = j * 3 + 2
          · subst h5
            rw [if_neg (by omega), if_pos (by omega), Nat.add_sub_cancel_left]
            have := HCL.out
            rw [cell_of_row wr g _ cur _ (0, 0) hcur] at this
            rw [Array.getElem?_toList, this]
            rfl
          · by_cases h6 : j * 3 ≤ k ∧ k < j * 3 + 2
            · rw [if_pos h6, if_pos (by omega)]
              have hq : k - j * 3 < 2 := by omega
              exact (List.getElem?_append_left (l₁ := ([.int .i64 (k0 + (S : Int)), .int .i64 (k0 + (S : Int) + 1)] : List Value)) (l₂ := [.slice av zs.length cv]) hq).symm
            · rw [if_neg h6, if_neg (by omega)])
      have e2 : markAns1 (k0 + (S : Int)) (d1, c1, zs) = (k0 + (S : Int), k0 + (S : Int) + 1, marks id (k0 + (S : Int) + 1 + 1) zs.length) := rfl
      rw [← e2, HM.out] at hO
      have HO := hidden hO
      have HB := (hb.trans (HT1.out.mono (by simpa using hgp))).trans (hb2.mono hf1)
      clear hO o2 hb2 HBK hb e2 hsz HT1 HLT HCL
      go_wp2
      go_roundw
      case rel => exact ⟨j + 1, by omega, by go_num, by rw [HW.out]; go_num, HO.out, HB⟩
      case measure => simp [intOf]; omega
    · go_wp2
      go_ret
      have e : j = n := by omega
      subst e
      have ht : (d.map cntAns).take j = d.map cntAns := List.take_of_length_le (by simp; omega)
      rw [List.take_of_length_le (by omega), List.drop_of_length_le (by omega), List.append_nil] at ho
      exact ⟨ret_int (by rw [ht]; rfl), ho, hb⟩

set_option maxHeartbeats 1600000 in
theorem heldAnsS_any (w : World) (E : TypeId) (a : Option Addr) (n cap : Nat) (d : List AnsD) (k0 : Int) (h : (tAnsS E).Rd w [.slice a n cap] (marktAnsS k0 d)) (hw : wttAnsS d ≤ 2097152) (hk : 0 ≤ k0) (hk' : k0 + (cnttAnsS d : Int) ≤ 16777216) :
    Calls Try.prog 25 #[.slice a n cap, .int .i64 k0] w fun e w' => e = .returned (.int .i64 (k0 + (cnttAnsS d : Int))) ∧ Same w w' := by
  obtain ⟨hl, hc, hm⟩ := row_length h
  have hmL : (marktAnsS k0 d).length = d.length := markL_length _ _ _ _
  rw [hmL] at hl
  have hn : n ≤ 2097152 := by unfold wttAnsS at hw; omega
  go_enter Try.func25, Try.ntmps25
  go_wp2
  go_loopw [1, 5] (fun kk i wr => ∃ j : Nat, j ≤ n ∧ i = .int .i64 j ∧ kk = .int .i64 (k0 + (sumL ((d.map cntAns).take j) : Int)) ∧ Same w wr) (fun _ i _ => n - (intOf i).toNat)
  case atStart => exact ⟨0, Nat.zero_le _, rfl, by simp [sumL], Same.refl _⟩
  case round =>
    obtain ⟨j, hj, rfl, rfl, hs⟩ := hrel
    by_cases hjn : j < n
    · obtain ⟨d1, c1, zs, hdj⟩ : ∃ d1 c1 zs, d[j]? = some (d1, c1, zs) := ⟨_, _, _, List.getElem?_eq_getElem (by omega)⟩
      have hin := ans_inner hdj
      have hlen : zs.length ≤ 2097152 := by unfold wttAnsS at hw; simp only at hin; omega
      have hst := sumL_take (l := d.map cntAns) (j := j) (x := 2 + zs.length) (by rw [List.getElem?_map, hdj]; rfl)
      have hle := sumL_le (l := d.map cntAns) (j + 1)
      unfold cnttAnsS at hk'
      rcases ansS_at h with h0' | ⟨b, off, rfl, hbl, hcs⟩
      · omega
      obtain ⟨av, cv, hc0, hc1, hc2, hrv⟩ := hcs j _ _ _ (markL_at (c := cntAns) (mk := markAns1) (k := k0) hdj)
      have HW := hidden hst
      have hrr := (ints_rd (hrv.same hs)).1
      have hw2 := (hs.cell ⟨b, off + j * 3 + 2, none⟩).trans hc2
      have hw0 := (hs.cell ⟨b, off + j * 3, none⟩).trans hc0
      have hw1 := (hs.cell ⟨b, off + j * 3 + 1, none⟩).trans hc1
      simp only [marks_length] at hw0 hw1 hrr hw2
      generalize sumL ((d.map cntAns).take j) = S at hst HW hrr hw0 hw1
      clear hcs hdj hc0 hc1 hc2 hrv hin
      go_wp2_with fail
      refine (heldIntS_any _ _ _ _ _ hrr (by omega) (by omega) (by omega)).mono ?_
      rintro e w2 ⟨rfl, hs2⟩
      have HS := hidden (hs.trans hs2)
      clear hs hs2
      go_wp2
      go_roundw
      case rel => exact ⟨j + 1, by omega, by go_num, by rw [HW.out]; go_num, HS.out⟩
      case measure => simp [intOf]; omega
    · go_wp2
      go_ret
      have e : j = n := by omega
      subst e
      have ht : (d.map cntAns).take j = d.map cntAns := List.take_of_length_le (by simp; omega)
      exact ⟨ret_int (by rw [ht]; rfl), hs⟩

end Go.Proofs.Ytgjldmjlbhkgbaa

/-
  The laws' helpers over slices of answers, of jobs, of turns: what is left of a bound, the copy, the comparison of two that read alike. Conditions: they weigh at most 1048576 (2097152 for the comparison).
-/
namespace Go.Proofs.Ytgjldmjlbhkgbaa
open Go.RowKit

theorem Try.infoAns15 : (Try.prog.info? 76).map (fun i => (i.zero, i.size, i.bytes)) = some (some (.agg #[.int .i64 0, .int .i64 0, .slice none 0 0]), 3, 40) := by kernel_rfl
def wJob (x : JobD) : Nat := x.2.2.2.2.1.length + x.2.2.2.2.2.2.1.length
def wttJobS (d : List JobD) : Nat := d.length + sumL (d.map wJob)
theorem job_inner {d : List JobD} {j : Nat} {x : JobD} (h : d[j]? = some x) : wJob x + sumL ((d.map wJob).take j) ≤ sumL (d.map wJob) := by
  have h1 := sumL_take (l := d.map wJob) (j := j) (x := wJob x) (by rw [List.getElem?_map, h]; rfl)
  have h2 := sumL_le (l := d.map wJob) (j + 1)
  omega
/-- A slice of such, at an index. -/
theorem jobS_at {E : TypeId} {w : World} {a : Option Addr} {n cap : Nat} {d : List JobD} (h : (tJobS E).Rd w [.slice a n cap] d) :
    n = 0 ∨ ∃ b off, a = some ⟨b, off, none⟩ ∧ b < w.heap.size ∧ ∀ (i : Nat) (o : Int) (d1 : Int) (b1 : Int) (k : Int) (zs : List Int) (t1 : Int) (gs : List Int) (q1 : Int), d[i]? = some (o, d1, b1, k, zs, t1, gs, q1) → ∃ av0 cv0 av1 cv1, w.cell? ⟨b, off + i * 8, none⟩ = some (.int .i64 o) ∧ w.cell? ⟨b, off + i * 8 + 1, none⟩ = some (.int .i64 d1) ∧ w.cell? ⟨b, off + i * 8 + 2, none⟩ = some (.int .i64 b1) ∧ w.cell? ⟨b, off + i * 8 + 3, none⟩ = some (.int .i64 k) ∧ w.cell? ⟨b, off + i * 8 + 4, none⟩ = some (.slice av0 zs.length cv0) ∧ w.cell? ⟨b, off + i * 8 + 5, none⟩ = some (.int .i64 t1) ∧ w.cell? ⟨b, off + i * 8 + 6, none⟩ = some (.slice av1 gs.length cv1) ∧ w.cell? ⟨b, off + i * 8 + 7, none⟩ = some (.int .i64 q1) ∧ tIntS.Rd w [.slice av0 zs.length cv0] zs ∧ tIntS.Rd w [.slice av1 gs.length cv1] gs := by
  rcases rowN_at h with h0 | ⟨b, off, ha, hlt, hc⟩
  · exact .inl h0
  · refine .inr ⟨b, off, ha, hlt, fun i o d1 b1 k zs t1 gs q1 hi => ?_⟩
    obtain ⟨cs, hl, hr, hcc⟩ := hc i _ hi
    obtain ⟨v0, v1, v2, v3, v4, v5, v6, v7, rfl⟩ : ∃ v0 v1 v2 v3 v4 v5 v6 v7, cs = [v0, v1, v2, v3, v4, v5, v6, v7] := by
      match cs, hl with
      | [v0, v1, v2, v3, v4, v5, v6, v7], _ => exact ⟨v0, v1, v2, v3, v4, v5, v6, v7, rfl⟩
    obtain ⟨rfl, hr0⟩ := int_rd hr
    obtain ⟨rfl, hr1⟩ := int_rd hr0
    obtain ⟨rfl, hr2⟩ := int_rd hr1
    obtain ⟨rfl, hr3⟩ := int_rd hr2
    obtain ⟨av0, cv0, rfl, hs0, hr4⟩ := ints_rd_p hr3
    obtain ⟨rfl, hr5⟩ := int_rd hr4
    obtain ⟨av1, cv1, rfl, hs1, hr6⟩ := ints_rd_p hr5
    obtain rfl := int_rd1 hr6
    exact ⟨av0, cv0, av1, cv1, hcc 0 (by show 0 < 8; omega), hcc 1 (by show 1 < 8; omega), hcc 2 (by show 2 < 8; omega), hcc 3 (by show 3 < 8; omega), hcc 4 (by show 4 < 8; omega), hcc 5 (by show 5 < 8; omega), hcc 6 (by show 6 < 8; omega), hcc 7 (by show 7 < 8; omega), hs0, hs1⟩

theorem Try.infoJob15 : (Try.prog.info? 73).map (fun i => (i.zero, i.size, i.bytes)) = some (some (.agg #[.int .i64 0, .int .i64 0, .int .i64 0, .int .i64 0, .slice none 0 0, .int .i64 0, .slice none 0 0, .int .i64 0]), 8, 96) := by kernel_rfl
set_option maxHeartbeats 1600000 in
theorem eqJobS_same (w : World) (E E' : TypeId) (a a' : Option Addr) (n ca cb : Nat) (d : List JobD) (h : (tJobS E).Rd w [.slice a n ca] d) (h' : (tJobS E').Rd w [.slice a' n cb] d) (hw : wttJobS d ≤ 2097152) :
    Calls Try.prog 14 #[.slice a n ca, .slice a' n cb] w fun e w' => e = .returned (.bool true) ∧ Below w.heap.size w w' := by
  obtain ⟨hl, hc, hm⟩ := row_length h
  have hn : n ≤ 2097152 := by unfold wttJobS at hw; omega
  go_enter Try.func14, Try.ntmps14
  go_wp2
  go_loopw [5] (fun i wr => ∃ j : Nat, j ≤ n ∧ i = .int .i64 j ∧ Below w.heap.size w wr) (fun i _ => n - (intOf i).toNat)
  case atStart => exact ⟨0, Nat.zero_le _, rfl, Below.refl _ _⟩
  case round =>
    obtain ⟨j, hj, rfl, hb⟩ := hrel
    by_cases hjn : j < n
    · rcases jobS_at (h.below hb) with h0' | ⟨b, off, rfl, hbl, hcs⟩
      · omega
      rcases jobS_at (h'.below hb) with h0' | ⟨b2, off2, rfl, hbl2, hcs2⟩
      · omega
      obtain ⟨o, d1, b1, k, zs, t1, gs, q1, hdj⟩ : ∃ o d1 b1 k zs t1 gs q1, d[j]? = some (o, d1, b1, k, zs, t1, gs, q1) := ⟨_, _, _, _, _, _, _, _, List.getElem?_eq_getElem (by omega)⟩
      have hin := job_inner hdj
      have hlen : zs.length + gs.length ≤ 2097152 := by unfold wttJobS at hw; simp only [wJob] at hin; omega
      obtain ⟨av0, cv0, av1, cv1, hc0, hc1, hc2, hc3, hc4, hc5, hc6, hc7, hr0, hr1⟩ := hcs j o d1 b1 k zs t1 gs q1 hdj
      obtain ⟨bv0, dv0, bv1, dv1, hd0, hd1, hd2, hd3, hd4, hd5, hd6, hd7, hu0, hu1⟩ := hcs2 j o d1 b1 k zs t1 gs q1 hdj
      have i1 : (0 : Int) ≤ (j : Int) := by omega
      have i2 : (j : Int) < (n : Int) := by omega
      clear hcs hcs2 hdj hin
      go_wp2_with fail
      go_region_held3 (fun w' => (∀ o, w'.cell? ⟨b, o, none⟩ = wr.cell? ⟨b, o, none⟩) ∧ (∀ o, w'.cell? ⟨b2, o, none⟩ = wr.cell? ⟨b2, o, none⟩))
        (first | (exact ⟨fun o => hbC.cell (p := ⟨b, o, none⟩) hbl, fun o => hbC.cell (p := ⟨b2, o, none⟩) hbl2⟩) | (exact ⟨fun _ => rfl, fun _ => rfl⟩) | go_keep)
        (first | (go_at_call 40; have qb := (Below.refl wr.heap.size wr).drew; refine (eqJob_same _ o d1 b1 k t1 q1 _ _ _ _ _ _ _ _ zs gs (hr0.below qb) (hu0.below qb) (hr1.below qb) (hu1.below qb) (by omega)).mono ?_; rintro e wC ⟨rfl, hbC0⟩; have hbC : Below wr.heap.size wr wC := qb.trans hbC0))
      go_wp2
      go_roundw
      case rel => exact ⟨j + 1, by omega, by go_num, Below.andThen hb hbC⟩
      case measure => simp [intOf]; omega
    · go_wp2
      go_ret
      exact ⟨rfl, hb⟩

def wTurn (x : TurnD) : Nat := x.2.2.2.2.1.length + x.2.2.2.2.2.2.2.length
def wttTurnS (d : List TurnD) : Nat := d.length + sumL (d.map wTurn)
theorem turn_inner {d : List TurnD} {j : Nat} {x : TurnD} (h : d[j]? = some x) : wTurn x + sumL ((d.map wTurn).take j) ≤ sumL (d.map wTurn) := by
  have h1 := sumL_take (l := d.map wTurn) (j := j) (x := wTurn x) (by rw [List.getElem?_map, h]; rfl)
  have h2 := sumL_le (l := d.map wTurn) (j + 1)
  omega
/-- A slice of such, at an index. -/
theorem turnS_at {E : TypeId} {w : World} {a : Option Addr} {n cap : Nat} {d : List TurnD} (h : (tTurnS E).Rd w [.slice a n cap] d) :
    n = 0 ∨ ∃ b off, a = some ⟨b, off, none⟩ ∧ b < w.heap.size ∧ ∀ (i : Nat) (o : Int) (d1 : Int) (b1 : Int) (k : Int) (zs : List Int) (d2 : Int) (q1 : Int) (ys : List Int), d[i]? = some (o, d1, b1, k, zs, d2, q1, ys) → ∃ av0 cv0 av1 cv1, w.cell? ⟨b, off + i * 8, none⟩ = some (.int .i64 o) ∧ w.cell? ⟨b, off + i * 8 + 1, none⟩ = some (.int .i64 d1) ∧ w.cell? ⟨b, off + i * 8 + 2, none⟩ = some (.int .i64 b1) ∧ w.cell? ⟨b, off + i * 8 + 3, none⟩ = some (.int .i64 k) ∧ w.cell? ⟨b, off + i * 8 + 4, none⟩ = some (.slice av0 zs.length cv0) ∧ w.cell? ⟨b, off + i * 8 + 5, none⟩ = some (.int .i64 d2) ∧ w.cell? ⟨b, off + i * 8 + 6, none⟩ = some (.int .i64 q1) ∧ w.cell? ⟨b, off + i * 8 + 7, none⟩ = some (.slice av1 ys.length cv1) ∧ tIntS.Rd w [.slice av0 zs.length cv0] zs ∧ tIntS.Rd w [.slice av1 ys.length cv1] ys := by
  rcases rowN_at h with h0 | ⟨b, off, ha, hlt, hc⟩
  · exact .inl h0
  · refine .inr ⟨b, off, ha, hlt, fun i o d1 b1 k zs d2 q1 ys hi => ?_⟩
    obtain ⟨cs, hl, hr, hcc⟩ := hc i _ hi
    obtain ⟨v0, v1, v2, v3, v4, v5, v6, v7, rfl⟩ : ∃ v0 v1 v2 v3 v4 v5 v6 v7, cs = [v0, v1, v2, v3, v4, v5, v6, v7] := by
      match cs, hl with
      | [v0, v1, v2, v3, v4, v5, v6, v7], _ => exact ⟨v0, v1, v2, v3, v4, v5, v6, v7, rfl⟩
    obtain ⟨rfl, hr0⟩ := int_rd hr
    obtain ⟨rfl, hr1⟩ := int_rd hr0
    obtain ⟨rfl, hr2⟩ := int_rd hr1
    obtain ⟨rfl, hr3⟩ := int_rd hr2
    obtain ⟨av0, cv0, rfl, hs0, hr4⟩ := ints_rd_p hr3
    obtain ⟨rfl, hr5⟩ := int_rd hr4
    obtain ⟨rfl, hr6⟩ := int_rd hr5
    obtain ⟨av1, cv1, rfl⟩ := row_shape hr6
    exact ⟨av0, cv0, av1, cv1, hcc 0 (by show 0 < 8; omega), hcc 1 (by show 1 < 8; omega), hcc 2 (by show 2 < 8; omega), hcc 3 (by show 3 < 8; omega), hcc 4 (by show 4 < 8; omega), hcc 5 (by show 5 < 8; omega), hcc 6 (by show 6 < 8; omega), hcc 7 (by show 7 < 8; omega), hs0, hr6⟩

theorem Try.infoTurn15 : (Try.prog.info? 79).map (fun i => (i.zero, i.size, i.bytes)) = some (some (.agg #[.int .i64 0, .int .i64 0, .int .i64 0, .int .i64 0, .slice none 0 0, .int .i64 0, .int .i64 0, .slice none 0 0]), 8, 96) := by kernel_rfl
set_option maxHeartbeats 1600000 in
theorem eqTurnS_same (w : World) (E E' : TypeId) (a a' : Option Addr) (n ca cb : Nat) (d : List TurnD) (h : (tTurnS E).Rd w [.slice a n ca] d) (h' : (tTurnS E').Rd w [.slice a' n cb] d) (hw : wttTurnS d ≤ 2097152) :
    Calls Try.prog 16 #[.slice a n ca, .slice a' n cb] w fun e w' => e = .returned (.bool true) ∧ Below w.heap.size w w' := by
  obtain ⟨hl, hc, hm⟩ := row_length h
  have hn : n ≤ 2097152 := by unfold wttTurnS at hw; omega
  go_enter Try.func16, Try.ntmps16
  go_wp2
  go_loopw [5] (fun i wr => ∃ j : Nat, j ≤ n ∧ i = .int .i64 j ∧ Below w.heap.size w wr) (fun i _ => n - (intOf i).toNat)
  case atStart => exact ⟨0, Nat.zero_le _, rfl, Below.refl _ _⟩
  case round =>
    obtain ⟨j, hj, rfl, hb⟩ := hrel
    by_cases hjn : j < n
    · rcases turnS_at (h.below hb) with h0' | ⟨b, off, rfl, hbl, hcs⟩
      · omega
      rcases turnS_at (h'.below hb) with h0' | ⟨b2, off2, rfl, hbl2, hcs2⟩
      · omega
      obtain ⟨o, d1, b1, k, zs, d2, q1, ys, hdj⟩ : ∃ o d1 b1 k zs d2 q1 ys, d[j]? = some (o, d1, b1, k, zs, d2, q1, ys) := ⟨_, _, _, _, _, _, _, _, List.getElem?_eq_getElem (by omega)⟩
      have hin := turn_inner hdj
      have hlen : zs.length + ys.length ≤ 2097152 := by unfold wttTurnS at hw; simp only [wTurn] at hin; omega
      obtain ⟨av0, cv0, av1, cv1, hc0, hc1, hc2, hc3, hc4, hc5, hc6, hc7, hr0, hr1⟩ := hcs j o d1 b1 k zs d2 q1 ys hdj
      obtain ⟨bv0, dv0, bv1, dv1, hd0, hd1, hd2, hd3, hd4, hd5, hd6, hd7, hu0, hu1⟩ := hcs2 j o d1 b1 k zs d2 q1 ys hdj
      have i1 : (0 : Int) ≤ (j : Int) := by omega
      have i2 : (j : Int) < (n : Int) := by omega
      clear hcs hcs2 hdj hin
      go_wp2_with fail
      go_region_held3 (fun w' => (∀ o, w'.cell? ⟨b, o, none⟩ = wr.cell? ⟨b, o, none⟩) ∧ (∀ o, w'.cell? ⟨b2, o, none⟩ = wr.cell? ⟨b2, o, none⟩))
        (first | (exact ⟨fun o => hbC.cell (p := ⟨b, o, none⟩) hbl, fun o => hbC.cell (p := ⟨b2, o, none⟩) hbl2⟩) | (exact ⟨fun _ => rfl, fun _ => rfl⟩) | go_keep)
        (first | (go_at_call 42; have qb := (Below.refl wr.heap.size wr).drew; refine (eqTurn_same _ o d1 b1 k d2 q1 _ _ _ _ _ _ _ _ zs ys (hr0.below qb) (hu0.below qb) (hr1.below qb) (hu1.below qb) (by omega)).mono ?_; rintro e wC ⟨rfl, hbC0⟩; have hbC : Below wr.heap.size wr wC := qb.trans hbC0))
      go_wp2
      go_roundw
      case rel => exact ⟨j + 1, by omega, by go_num, Below.andThen hb hbC⟩
      case measure => simp [intOf]; omega
    · go_wp2
      go_ret
      exact ⟨rfl, hb⟩

end Go.Proofs.Ytgjldmjlbhkgbaa

/-
  The laws' helpers over slices of commands. Conditions: at most 1048576 in all (marks up to 16777216).
-/
namespace Go.Proofs.Ytgjldmjlbhkgbaa
open Go.RowKit

def wttCmdS (d : List CmdD) : Nat := d.length + sumL (d.map fun x => x.2.2.2.2.length)
theorem cmd_inner {d : List CmdD} {j : Nat} {x : CmdD} (h : d[j]? = some x) : x.2.2.2.2.length + sumL ((d.map fun x => x.2.2.2.2.length).take j) ≤ sumL (d.map fun x => x.2.2.2.2.length) := by
  have h1 := sumL_take (l := d.map fun x => x.2.2.2.2.length) (j := j) (x := x.2.2.2.2.length) (by rw [List.getElem?_map, h]; rfl)
  have h2 := sumL_le (l := d.map fun x => x.2.2.2.2.length) (j + 1)
  omega
/-- A slice of such, at an index. -/
theorem cmdS_at {E : TypeId} {w : World} {a : Option Addr} {n cap : Nat} {d : List CmdD} (h : (tCmdS E).Rd w [.slice a n cap] d) :
    n = 0 ∨ ∃ b off, a = some ⟨b, off, none⟩ ∧ b < w.heap.size ∧ ∀ (i : Nat) (o d1 b1 k : Int) (zs : List Int), d[i]? = some (o, d1, b1, k, zs) → ∃ av cv, w.cell? ⟨b, off + i * 5, none⟩ = some (.int .i64 o) ∧ w.cell? ⟨b, off + i * 5 + 1, none⟩ = some (.int .i64 d1) ∧ w.cell? ⟨b, off + i * 5 + 2, none⟩ = some (.int .i64 b1) ∧ w.cell? ⟨b, off + i * 5 + 3, none⟩ = some (.int .i64 k) ∧ w.cell? ⟨b, off + i * 5 + 4, none⟩ = some (.slice av zs.length cv) ∧ tIntS.Rd w [.slice av zs.length cv] zs := by
  rcases rowN_at h with h0 | ⟨b, off, ha, hlt, hc⟩
  · exact .inl h0
  · refine .inr ⟨b, off, ha, hlt, fun i o d1 b1 k zs hi => ?_⟩
    obtain ⟨cs, hl, hr, hcc⟩ := hc i _ hi
    obtain ⟨v0, v1, v2, v3, v4, rfl⟩ : ∃ v0 v1 v2 v3 v4, cs = [v0, v1, v2, v3, v4] := by
      match cs, hl with
      | [v0, v1, v2, v3, v4], _ => exact ⟨v0, v1, v2, v3, v4, rfl⟩
    obtain ⟨rfl, hr0⟩ := int_rd hr
    obtain ⟨rfl, hr1⟩ := int_rd hr0
    obtain ⟨rfl, hr2⟩ := int_rd hr1
    obtain ⟨rfl, hr3⟩ := int_rd hr2
    obtain ⟨av, cv, rfl⟩ := row_shape hr3
    exact ⟨av, cv, hcc 0 (by show 0 < 5; omega), hcc 1 (by show 1 < 5; omega), hcc 2 (by show 2 < 5; omega), hcc 3 (by show 3 < 5; omega), hcc 4 (by show 4 < 5; omega), hr3⟩

theorem Try.infoCmd14 : (Try.prog.info? 70).map (fun i => (i.zero, i.size, i.bytes)) = some (some (.agg #[.int .i64 0, .int .i64 0, .int .i64 0, .int .i64 0, .slice none 0 0]), 5, 56) := by kernel_rfl
set_option maxHeartbeats 1600000 in
theorem eqCmdS_same (w : World) (E E' : TypeId) (a a' : Option Addr) (n ca cb : Nat) (d : List CmdD) (h : (tCmdS E).Rd w [.slice a n ca] d) (h' : (tCmdS E').Rd w [.slice a' n cb] d) (hw : wttCmdS d ≤ 2097152) :
    Calls Try.prog 13 #[.slice a n ca, .slice a' n cb] w fun e w' => e = .returned (.bool true) ∧ Below w.heap.size w w' := by
  obtain ⟨hl, hc, hm⟩ := row_length h
  have hn : n ≤ 2097152 := by unfold wttCmdS at hw; omega
  go_enter Try.func13, Try.ntmps13
  go_wp2
  go_loopw [5] (fun i wr => ∃ j : Nat, j ≤ n ∧ i = .int .i64 j ∧ Below w.heap.size w wr) (fun i _ => n - (intOf i).toNat)
  case atStart => exact ⟨0, Nat.zero_le _, rfl, Below.refl _ _⟩
  case round =>
    obtain ⟨j, hj, rfl, hb⟩ := hrel
    by_cases hjn : j < n
    · rcases cmdS_at h with h0' | ⟨b, off, rfl, hbl, hcs⟩
      · omega
      rcases cmdS_at h' with h0' | ⟨b2, off2, rfl, hbl2, hcs2⟩
      · omega
      obtain ⟨o, d1, b1, k, zs, hdj⟩ : ∃ o d1 b1 k zs, d[j]? = some (o, d1, b1, k, zs) := ⟨_, _, _, _, _, List.getElem?_eq_getElem (by omega)⟩
      have hin := cmd_inner hdj
      have hlen : zs.length ≤ 2097152 := by unfold wttCmdS at hw; simp only at hin; omega
      obtain ⟨av, cv, hc0, hc1, hc2, hc3, hc4, hrv⟩ := hcs j o d1 b1 k zs hdj
      obtain ⟨av2, cv2, hd0, hd1, hd2, hd3, hd4, hrv2⟩ := hcs2 j o d1 b1 k zs hdj
      have hw0 := (hb.cell (p := ⟨b, off + j * 5, none⟩) hbl).trans hc0
      have hw1 := (hb.cell (p := ⟨b, off + j * 5 + 1, none⟩) hbl).trans hc1
      have hw2 := (hb.cell (p := ⟨b, off + j * 5 + 2, none⟩) hbl).trans hc2
      have hw3 := (hb.cell (p := ⟨b, off + j * 5 + 3, none⟩) hbl).trans hc3
      have hw4 := (hb.cell (p := ⟨b, off + j * 5 + 4, none⟩) hbl).trans hc4
      have hu0 := (hb.cell (p := ⟨b2, off2 + j * 5, none⟩) hbl2).trans hd0
      have hu1 := (hb.cell (p := ⟨b2, off2 + j * 5 + 1, none⟩) hbl2).trans hd1
      have hu2 := (hb.cell (p := ⟨b2, off2 + j * 5 + 2, none⟩) hbl2).trans hd2
      have hu3 := (hb.cell (p := ⟨b2, off2 + j * 5 + 3, none⟩) hbl2).trans hd3
      have hu4 := (hb.cell (p := ⟨b2, off2 + j * 5 + 4, none⟩) hbl2).trans hd4
      have r1 := hrv.below hb
      have r2 := hrv2.below hb
      have zx : b < wr.heap.size := Nat.lt_of_lt_of_le hbl hb.size
      have zy : b2 < wr.heap.size := Nat.lt_of_lt_of_le hbl2 hb.size
      have i1 : (0 : Int) ≤ (j : Int) := by omega
      have i2 : (j : Int) < (n : Int) := by omega
      clear hcs hcs2 hdj hc0 hc1 hc2 hc3 hc4 hd0 hd1 hd2 hd3 hd4 hrv hrv2 hin
      go_wp2_with fail
      go_region_held3 (fun w' => w'.cell? ⟨b, off + j * 5, none⟩ = some (.int .i64 o) ∧ w'.cell? ⟨b, off + j * 5 + 1, none⟩ = some (.int .i64 d1) ∧ w'.cell? ⟨b, off + j * 5 + 2, none⟩ = some (.int .i64 b1) ∧ w'.cell? ⟨b, off + j * 5 + 3, none⟩ = some (.int .i64 k) ∧ w'.cell? ⟨b, off + j * 5 + 4, none⟩ = some (.slice av zs.length cv) ∧ w'.cell? ⟨b2, off2 + j * 5, none⟩ = some (.int .i64 o) ∧ w'.cell? ⟨b2, off2 + j * 5 + 1, none⟩ = some (.int .i64 d1) ∧ w'.cell? ⟨b2, off2 + j * 5 + 2, none⟩ = some (.int .i64 b1) ∧ w'.cell? ⟨b2, off2 + j * 5 + 3, none⟩ = some (.int .i64 k) ∧ w'.cell? ⟨b2, off2 + j * 5 + 4, none⟩ = some (.slice av2 zs.length cv2))
        (first | (exact ⟨(hbC.cell (p := ⟨b, off + j * 5, none⟩) zx).trans hw0, (hbC.cell (p := ⟨b, off + j * 5 + 1, none⟩) zx).trans hw1, (hbC.cell (p := ⟨b, off + j * 5 + 2, none⟩) zx).trans hw2, (hbC.cell (p := ⟨b, off + j * 5 + 3, none⟩) zx).trans hw3, (hbC.cell (p := ⟨b, off + j * 5 + 4, none⟩) zx).trans hw4, (hbC.cell (p := ⟨b2, off2 + j * 5, none⟩) zy).trans hu0, (hbC.cell (p := ⟨b2, off2 + j * 5 + 1, none⟩) zy).trans hu1, (hbC.cell (p := ⟨b2, off2 + j * 5 + 2, none⟩) zy).trans hu2, (hbC.cell (p := ⟨b2, off2 + j * 5 + 3, none⟩) zy).trans hu3, (hbC.cell (p := ⟨b2, off2 + j * 5 + 4, none⟩) zy).trans hu4⟩) | (exact ⟨hw0, hw1, hw2, hw3, hw4, hu0, hu1, hu2, hu3, hu4⟩) | go_keep)
        (first | (go_at_call 39; refine (eqCmd_same _ o d1 b1 k _ _ _ _ _ zs rfl (by exact (ints_rd r1.drew).1) (by exact (ints_rd r2.drew).1) hlen).mono ?_; rintro e wC ⟨rfl, hbC0⟩; have hbC : Below wr.heap.size wr wC := (Below.refl wr.heap.size wr).drew.trans hbC0))
      go_wp2
      go_roundw
      case rel => exact ⟨j + 1, by omega, by go_num, Below.andThen hb hbC⟩
      case measure => simp [intOf]; omega
    · go_wp2
      go_ret
      exact ⟨rfl, hb⟩

def cntCmd (x : CmdD) : Nat := 4 + x.2.2.2.2.length
def markCmd1 (k : Int) (x : CmdD) : CmdD := (k, k + 1, k + 1 + 1, k + 1 + 1 + 1, marks id (k + 1 + 1 + 1 + 1) x.2.2.2.2.length)
def marktCmdS (k0 : Int) (d : List CmdD) : List CmdD := markL cntCmd markCmd1 k0 d
def cnttCmdS (d : List CmdD) : Nat := sumL (d.map cntCmd)
theorem cnttCmdS_le (d : List CmdD) : cnttCmdS d ≤ 4 * wttCmdS d := by
  unfold cnttCmdS wttCmdS
  induction d with
  | nil => simp [sumL]
  | cons x d ih =>
    simp only [List.map_cons, sumL, List.foldr_cons, List.length_cons] at *
    unfold cntCmd at *
    omega

set_option maxHeartbeats 3200000 in
theorem markCmdS_fp (w : World) (a : Option Addr) (n cap : Nat) (d : List CmdD) (k0 : Int) (fp : List Nat) (h : (tCmdS 70).Mine w [.slice a n cap] d fp) (hw : wttCmdS d ≤ 2097152) (hk : 0 ≤ k0) (hk' : k0 + (cnttCmdS d : Int) ≤ 16777216) :
    Calls Try.prog 18 #[.slice a n cap, .int .i64 k0] w fun e w' => e = .returned (.int .i64 (k0 + (cnttCmdS d : Int))) ∧ (tCmdS 70).Mine w' [.slice a n cap] (marktCmdS k0 d) fp ∧ Turned fp w w' := by
  obtain ⟨hl, hc, hm⟩ := row_length h.rd
  have hmL : (marktCmdS k0 d).length = d.length := markL_length _ _ _ _
  have hnn : n ≤ 2097152 := by unfold wttCmdS at hw; omega
  go_enter Try.func18, Try.ntmps18
  go_wp2
  go_loopw [1, 5] (fun kk i wr => ∃ j : Nat, j ≤ n ∧ i = .int .i64 j ∧ kk = .int .i64 (k0 + (sumL ((d.map cntCmd).take j) : Int)) ∧ (tCmdS 70).Mine wr [.slice a n cap] ((marktCmdS k0 d).take j ++ d.drop j) fp ∧ Turned fp w wr) (fun _ i _ => n - (intOf i).toNat)
  case atStart => exact ⟨0, Nat.zero_le _, rfl, by simp [sumL], by simpa using h, Turned.refl _ _⟩
  case round =>
    obtain ⟨j, hj, rfl, rfl, ho, hb⟩ := hrel
    by_cases hjn : j < n
    · obtain ⟨o, d1, b1, k, zs, hdj⟩ : ∃ o d1 b1 k zs, d[j]? = some (o, d1, b1, k, zs) := ⟨_, _, _, _, _, List.getElem?_eq_getElem (by omega)⟩
      have hin := cmd_inner hdj
      have hlen : zs.length ≤ 2097152 := by unfold wttCmdS at hw; simp only at hin; omega
      have hst := sumL_take (l := d.map cntCmd) (j := j) (x := 4 + zs.length) (by rw [List.getElem?_map, hdj]; rfl)
      have hle := sumL_le (l := d.map cntCmd) (j + 1)
      unfold cnttCmdS at hk'
      have HM := hidden (turn_step hmL (markL_at (c := cntCmd) (mk := markCmd1) (k := k0) hdj))
      have hat := turn_at (m := marktCmdS k0 d) hmL hdj
      have HW := hidden hst
      generalize sumL ((d.map cntCmd).take j) = S at hst HM HW
      have hS : k0 + (S : Int) + 4 + zs.length ≤ 16777216 := by omega
      rcases row_ow_shape ho with h0' | ⟨g, rfl⟩
      · omega
      obtain ⟨cs1, f1, ow1, hgf, hgp, hf1, hcc, hfz, _, back⟩ := row_open ho hat
      obtain ⟨v0, v1, v2, v3, v4, rfl⟩ : ∃ v0 v1 v2 v3 v4, cs1 = [v0, v1, v2, v3, v4] := by
        match cs1, tCmd.rdLen (tCmd.owRd ow1.1) with
        | [v0, v1, v2, v3, v4], _ => exact ⟨v0, v1, v2, v3, v4, rfl⟩
      obtain ⟨rfl, m0⟩ := int_mine ow1
      obtain ⟨rfl, m1⟩ := int_mine m0
      obtain ⟨rfl, m2⟩ := int_mine m1
      obtain ⟨rfl, m3⟩ := int_mine m2
      obtain ⟨av, cv, rfl⟩ := row_shape m3.rd
      have hc0 : wr.cell? ⟨g, j * 5, none⟩ = some (.int .i64 o) := hcc 0 (by show 0 < 5; omega)
      have hc1 : wr.cell? ⟨g, j * 5 + 1, none⟩ = some (.int .i64 d1) := hcc 1 (by show 1 < 5; omega)
      have hc2 : wr.cell? ⟨g, j * 5 + 2, none⟩ = some (.int .i64 b1) := hcc 2 (by show 2 < 5; omega)
      have hc3 : wr.cell? ⟨g, j * 5 + 3, none⟩ = some (.int .i64 k) := hcc 3 (by show 3 < 5; omega)
      have hc4 : wr.cell? ⟨g, j * 5 + 4, none⟩ = some (.slice av zs.length cv) := hcc 4 (by show 4 < 5; omega)
      have hlt := ho.lt
      have hfq := hfz
      have hT1 : Turned [g] wr ((((wr.setCell ⟨g, j * 5, none⟩ (.int .i64 (k0 + (S : Int)))).setCell ⟨g, j * 5 + 1, none⟩ (.int .i64 (k0 + (S : Int) + 1))).setCell ⟨g, j * 5 + 2, none⟩ (.int .i64 (k0 + (S : Int) + 1 + 1))).setCell ⟨g, j * 5 + 3, none⟩ (.int .i64 (k0 + (S : Int) + 1 + 1 + 1))) := setCells_turned [.int .i64 (k0 + (S : Int)), .int .i64 (k0 + (S : Int) + 1), .int .i64 (k0 + (S : Int) + 1 + 1), .int .i64 (k0 + (S : Int) + 1 + 1 + 1)] (j * 5) wr
      have hmv1 := m3.kept hT1 (fun b hb hb' => hgf (by simp at hb'; exact hb' ▸ hb))
      have HBK := hidden back
      have HOW := hidden hmv1
      have HT1 := hidden hT1
      have HLT := hidden hlt
      have HCL := hidden hc4
      clear hcc back ow1 m0 m1 m2 m3 hat hdj ho hst hmv1 hT1 hlt hfz hin
      go_wp2_with fail
      refine (markIntS_fp _ _ _ _ zs _ f1 HOW.out (by omega) (by omega) (by omega)).mono ?_
      rintro e w2 ⟨rfl, o2, hb2⟩
      have hsz : ((((wr.setCell ⟨g, j * 5, none⟩ (.int .i64 (k0 + (S : Int)))).setCell ⟨g, j * 5 + 1, none⟩ (.int .i64 (k0 + (S : Int) + 1))).setCell ⟨g, j * 5 + 2, none⟩ (.int .i64 (k0 + (S : Int) + 1 + 1))).setCell ⟨g, j * 5 + 3, none⟩ (.int .i64 (k0 + (S : Int) + 1 + 1 + 1))).heap.size = wr.heap.size := setCells_size (g := g) [.int .i64 (k0 + (S : Int)), .int .i64 (k0 + (S : Int) + 1), .int .i64 (k0 + (S : Int) + 1 + 1), .int .i64 (k0 + (S : Int) + 1 + 1 + 1)] (j * 5) wr
      have hglt : g < wr.heap.size := HLT.out g hgp
      have hO := HBK.out w2 [.int .i64 (k0 + (S : Int)), .int .i64 (k0 + (S : Int) + 1), .int .i64 (k0 + (S : Int) + 1 + 1), .int .i64 (k0 + (S : Int) + 1 + 1 + 1), .slice av zs.length cv] (k0 + (S : Int), k0 + (S : Int) + 1, k0 + (S : Int) + 1 + 1, k0 + (S : Int) + 1 + 1 + 1, marks id (k0 + (S : Int) + 1 + 1 + 1 + 1) zs.length)
        (int_mine_of (int_mine_of (int_mine_of (int_mine_of (o2)))))
        (fun b hb hbf hbg => (hb2.block b (by rw [hsz]; exact HLT.out b hb) hbf).trans (HT1.out.block b (HLT.out b hb) (by simpa using hbg)))
        (Nat.le_trans HT1.out.size hb2.size)
        (fun cur hcur hcs hnc => by
          have hcs' : cur.size = cap * 5 := hcs
          have hfit : j * 5 + 4 ≤ cur.size := by omega
          obtain ⟨cur', k1, k2, k3⟩ := setCells_row (E := 70) [.int .i64 (k0 + (S : Int)), .int .i64 (k0 + (S : Int) + 1), .int .i64 (k0 + (S : Int) + 1 + 1), .int .i64 (k0 + (S : Int) + 1 + 1 + 1)] (j * 5) wr cur hcur hfit
          refine ⟨cur', (hb2.block g (by rw [hsz]; exact hglt) hgf).trans k1, k2, fun k => ?_⟩
          have k3' : cur'.toList[k]? = if j * 5 ≤ k ∧ k < j * 5 + 4 then ([.int .i64 (k0 + (S : Int)), .int .i64 (k0 + (S : Int) + 1), .int .i64 (k0 + (S : Int) + 1 + 1), .int .i64 (k0 + (S : Int) + 1 + 1 + 1)] : List Value)[k - j * 5]? else cur.toList[k]? := k3 k
          show cur'.toList[k]? = if j * 5 ≤ k ∧ k < (j + 1) * 5 then ([.int .i64 (k0 + (S : Int)), .int .i64 (k0 + (S : Int) + 1), .int .i64 (k0 + (S : Int) + 1 + 1), .int .i64 (k0 + (S : Int) + 1 + 1 + 1), .slice av zs.length cv] : List Value)[k - j * 5]? else cur.toList[k]?
          rw [k3']
          by_cases h5 : k = j * 5 + 4
          · subst h5
            rw [if_neg (by omega), if_pos (by omega), Nat.add_sub_cancel_left]
            have := HCL.out
            rw [cell_of_row wr g _ cur _ (0, 0) hcur] at this
            rw [Array.getElem?_toList, this]
            rfl
          · by_cases h6 : j * 5 ≤ k ∧ k < j * 5 + 4
            · rw [if_pos h6, if_pos (by omega)]
              have hq : k - j * 5 < 4 := by omega
              exact (List.getElem?_append_left (l₁ := ([.int .i64 (k0 + (S : Int)), .int .i64 (k0 + (S : Int) + 1), .int .i64 (k0 + (S : Int) + 1 + 1), .int .i64 (k0 + (S : Int) + 1 + 1 + 1)] : List Value)) (l₂ := [.slice av zs.length cv]) hq).symm
            · rw [if_neg h6, if_neg (by omega)])
      have e2 : markCmd1 (k0 + (S : Int)) (o, d1, b1, k, zs) = (k0 + (S : Int), k0 + (S : Int) + 1, k0 + (S : Int) + 1 + 1, k0 + (S : Int) + 1 + 1 + 1, marks id (k0 + (S : Int) + 1 + 1 + 1 + 1) zs.length) := rfl
      rw [← e2, HM.out] at hO
      have HO := hidden hO
      have HB := (hb.trans (HT1.out.mono (by simpa using hgp))).trans (hb2.mono hf1)
      clear hO o2 hb2 HBK hb e2 hsz HT1 HLT HCL
      go_wp2
      go_roundw
      case rel => exact ⟨j + 1, by omega, by go_num, by rw [HW.out]; go_num, HO.out, HB⟩
      case measure => simp [intOf]; omega
    · go_wp2
      go_ret
      have e : j = n := by omega
      subst e
      have ht : (d.map cntCmd).take j = d.map cntCmd := List.take_of_length_le (by simp; omega)
      rw [List.take_of_length_le (by omega), List.drop_of_length_le (by omega), List.append_nil] at ho
      exact ⟨ret_int (by rw [ht]; rfl), ho, hb⟩

end Go.Proofs.Ytgjldmjlbhkgbaa

/-
  Plain lemmas: a struct is loaded whole out of its block, and stored whole into one, whatever its cells are. No condition; nothing of the program is named here.
-/
namespace Go.Proofs.Ytgjldmjlbhkgbaa
open Go.RowKit

theorem But.widen {lo hi lo' hi' : Nat} {w w' : World} (h : But lo hi w w') (h1 : lo' ≤ lo) (h2 : hi ≤ hi') : But lo' hi' w w' := ⟨h.os, h.tape, h.output, h.size, fun k hk ho => h.block k hk (by omega)⟩
theorem Box.range {w : World} {B : Nat} {T : TypeId} {cs : Array Value} (h : Box w B T cs) : w.rangeAt B 0 cs.toList := fun j v hv => by
  rw [Nat.zero_add, h.cell j, ← Array.getElem?_toList]
  exact hv
/-- A struct that is stored whole. -/
theorem Box.stored {w : World} {B : Nat} {T : TypeId} {cs cs' : Array Value} (h : Box w B T cs) (hs : cs.size = cs'.size) : Box (w.setCells B 0 cs'.toList) B T cs' := by
  obtain ⟨cur', k1, k2, k3⟩ := setCells_row (E := T) cs'.toList 0 w cs h (by simp; omega)
  have e : cur' = cs' := by
    apply Array.ext_getElem?
    intro k
    rw [← Array.getElem?_toList, k3 k, ← Array.getElem?_toList]
    by_cases hk : k < cs'.size
    · rw [if_pos (by simp; omega), Nat.sub_zero]
    · rw [if_neg (by simp; omega), List.getElem?_eq_none (by simp; omega), List.getElem?_eq_none (by simp; omega)]
  rw [e] at k1
  exact k1
section
variable {P : Program} {ops : Array Oper} {rest : List Oper} {op : Oper} {a : Act} {w : World} {Q : Exit → Act → World → Prop} {B : Nat} {T : TypeId} {cs cs' : Array Value}
theorem run_load_box (T' : TypeId) (d : TypeDesc) (X : Box w B T cs) (hu : P.underlying T' = some d) (hd : d.isRow = true) (hi : (P.info? T').map (·.size) = some cs.size) : (Instr.loadAt T' (.pointer (some ⟨B, 0, none⟩))).run P w = .ok (.agg cs) w := by
  have := run_loadAt_mid w B 0 T' cs.toList d X.range hu hd (by rw [hi, Array.length_toList])
  simpa using this
theorem wpList_load_box (hgd : op.guard = none) (T' : TypeId) (x : Operand) (ho : op.op = .load T' x) (hx : a.eval x = .pointer (some ⟨B, 0, none⟩)) (X : Box w B T cs) (d : TypeDesc) (hu : P.underlying T' = some d) (hd : d.isRow = true) (hi : (P.info? T').map (·.size) = some cs.size)
    (h : wpList P ops Q rest (a.put op.dst (.agg cs)) w) : wpList P ops Q (op :: rest) a w :=
  wpList_load_mid hgd T' x ho B 0 hx cs.toList d X.range hu hd (by rw [hi, Array.length_toList]) (by simpa using h)
theorem wpList_store_box (hgd : op.guard = none) (T' : TypeId) (x y : Operand) (ho : op.op = .store T' x y) (hx : a.eval x = .pointer (some ⟨B, 0, none⟩)) (hy : a.eval y = .agg cs') (X : Box w B T cs) (hs : cs.size = cs'.size) (hi : (P.info? T').map (·.size) = some cs'.size) (h1 : cs'.toList.all (·.oneCell') = true)
    (h : ∀ V, Box V B T cs' → But B (B + 1) w V → V.heap.size = w.heap.size → wpList P ops Q rest (a.put op.dst undef) V) : wpList P ops Q (op :: rest) a w :=
  wpList_store_mid hgd T' x y ho B 0 cs' hx hy (fun j hj => ⟨by rw [Nat.zero_add, X.cell j, Array.getElem?_eq_getElem (by omega)]; rfl, X.frozen _⟩) hi (by rw [← Array.all_toList]; exact h1)
    (h _ (X.stored hs) (But.cells (Nat.le_refl _) (Nat.lt_succ_self _) _ _ _) (setCells_size _ _ _))
end

end Go.Proofs.Ytgjldmjlbhkgbaa

/-
  An engine as data; the laws' helpers over one: what is left of a bound, the copy, the comparison of two that read alike. Conditions: it weighs at most 1048576 (2097152 for the comparison).
-/
namespace Go.Proofs.Ytgjldmjlbhkgbaa
open Go.RowKit

/-- An engine's data: its array's numbers, its slices. -/
structure EngD where
  x : ArrN
  ms : List MemD
  ds : List (Int × List Int)
  ws : List CmdD
  js : List JobD
  an : List AnsD
  ts : List TurnD
abbrev tEngS : Ty := pairTy (tMemS 100 57) (pairTy (tWrS 91) (pairTy (tCmdS 70) (pairTy (tJobS 73) (pairTy (tAnsS 76) (tTurnS 79)))))
def engC (x : ArrN) (vm vd vw vj va vu : Value) : Array Value := #[.int .i64 x.id, .int .i64 x.n, .int .i64 x.s, vm, .int .i64 x.lost, .int .i64 x.built, .int .i64 x.seq, .int .i64 x.tail, .int .i64 x.gen, vd, .int .i64 x.fuse, .bool x.down, .bool x.broken, vw, vj, va, vu]
def EngD.dat (e : EngD) : tEngS.D := (e.ms, e.ds, e.ws, e.js, e.an, e.ts)
/-- An engine's cells read so. -/
def EngRd (w : World) (cs : Array Value) (e : EngD) : Prop := ∃ vm vd vw vj va vu, cs = engC e.x vm vd vw vj va vu ∧ tEngS.Rd w [vm, vd, vw, vj, va, vu] e.dat
/-- .. and what its slices lead to is a call's own, in blocks lo .. hi. -/
def EngOwn (w : World) (lo hi : Nat) (cs : Array Value) (e : EngD) : Prop := ∃ vm vd vw vj va vu, cs = engC e.x vm vd vw vj va vu ∧ tEngS.Own w lo hi [vm, vd, vw, vj, va, vu] e.dat
theorem EngOwn.rd {w : World} {lo hi : Nat} {cs : Array Value} {e : EngD} (h : EngOwn w lo hi cs e) : EngRd w cs e := by
  obtain ⟨vm, vd, vw, vj, va, vu, h1, h2⟩ := h
  exact ⟨vm, vd, vw, vj, va, vu, h1, h2.rd⟩
theorem EngRd.below {w w' : World} {cs : Array Value} {e : EngD} (h : EngRd w cs e) (hb : Below w.heap.size w w') : EngRd w' cs e := by
  obtain ⟨vm, vd, vw, vj, va, vu, h1, h2⟩ := h
  exact ⟨vm, vd, vw, vj, va, vu, h1, h2.below hb⟩
theorem EngOwn.below {w w' : World} {lo hi : Nat} {cs : Array Value} {e : EngD} (h : EngOwn w lo hi cs e) (hb : Below w.heap.size w w') : EngOwn w' lo hi cs e := by
  obtain ⟨vm, vd, vw, vj, va, vu, h1, h2⟩ := h
  exact ⟨vm, vd, vw, vj, va, vu, h1, h2.below hb⟩
theorem EngOwn.but {w w' : World} {lo hi l u : Nat} {cs : Array Value} {e : EngD} (h : EngOwn w lo hi cs e) (hb : But l u w w') (hd : hi ≤ l ∨ u ≤ lo) : EngOwn w' lo hi cs e := by
  obtain ⟨vm, vd, vw, vj, va, vu, h1, h2⟩ := h
  exact ⟨vm, vd, vw, vj, va, vu, h1, h2.but hb hd⟩
theorem EngOwn.widen {w : World} {lo hi lo' hi' : Nat} {cs : Array Value} {e : EngD} (h : EngOwn w lo hi cs e) (h1 : lo' ≤ lo) (h2 : hi ≤ hi') : EngOwn w lo' hi' cs e := by
  obtain ⟨vm, vd, vw, vj, va, vu, k1, k2⟩ := h
  exact ⟨vm, vd, vw, vj, va, vu, k1, k2.widen h1 h2⟩
theorem EngRd.parts {w : World} {cs : Array Value} {e : EngD} (h : EngRd w cs e) : ∃ am cm ad cd aw cw aj cj aa ca au cu, cs = engC e.x (.slice am e.ms.length cm) (.slice ad e.ds.length cd) (.slice aw e.ws.length cw) (.slice aj e.js.length cj) (.slice aa e.an.length ca) (.slice au e.ts.length cu) ∧ (tMemS 100 57).Rd w [.slice am e.ms.length cm] e.ms ∧ (tWrS 91).Rd w [.slice ad e.ds.length cd] e.ds ∧ (tCmdS 70).Rd w [.slice aw e.ws.length cw] e.ws ∧ (tJobS 73).Rd w [.slice aj e.js.length cj] e.js ∧ (tAnsS 76).Rd w [.slice aa e.an.length ca] e.an ∧ (tTurnS 79).Rd w [.slice au e.ts.length cu] e.ts := by
  obtain ⟨vm, vd, vw, vj, va, vu, rfl, h⟩ := h
  obtain ⟨h0, g0⟩ := pair_rd (t := tMemS 100 57) (vs := [_]) rfl h
  obtain ⟨h1, g1⟩ := pair_rd (t := tWrS 91) (vs := [_]) rfl g0
  obtain ⟨h2, g2⟩ := pair_rd (t := tCmdS 70) (vs := [_]) rfl g1
  obtain ⟨h3, g3⟩ := pair_rd (t := tJobS 73) (vs := [_]) rfl g2
  obtain ⟨h4, g4⟩ := pair_rd (t := tAnsS 76) (vs := [_]) rfl g3
  obtain ⟨am, cm, rfl⟩ := row_shape h0
  obtain ⟨ad, cd, rfl⟩ := row_shape h1
  obtain ⟨aw, cw, rfl⟩ := row_shape h2
  obtain ⟨aj, cj, rfl⟩ := row_shape h3
  obtain ⟨aa, ca, rfl⟩ := row_shape h4
  obtain ⟨au, cu, rfl⟩ := row_shape g4
  exact ⟨am, cm, ad, cd, aw, cw, aj, cj, aa, ca, au, cu, rfl, h0, h1, h2, h3, h4, g4⟩
theorem Box.cells17 {w : World} {B : Nat} {T : TypeId} {v0 v1 v2 v3 v4 v5 v6 v7 v8 v9 v10 v11 v12 v13 v14 v15 v16 : Value} (h : Box w B T #[v0, v1, v2, v3, v4, v5, v6, v7, v8, v9, v10, v11, v12, v13, v14, v15, v16]) : w.cell? ⟨B, 0, none⟩ = some v0 ∧ w.cell? ⟨B, 1, none⟩ = some v1 ∧ w.cell? ⟨B, 2, none⟩ = some v2 ∧ w.cell? ⟨B, 3, none⟩ = some v3 ∧ w.cell? ⟨B, 4, none⟩ = some v4 ∧ w.cell? ⟨B, 5, none⟩ = some v5 ∧ w.cell? ⟨B, 6, none⟩ = some v6 ∧ w.cell? ⟨B, 7, none⟩ = some v7 ∧ w.cell? ⟨B, 8, none⟩ = some v8 ∧ w.cell? ⟨B, 9, none⟩ = some v9 ∧ w.cell? ⟨B, 10, none⟩ = some v10 ∧ w.cell? ⟨B, 11, none⟩ = some v11 ∧ w.cell? ⟨B, 12, none⟩ = some v12 ∧ w.cell? ⟨B, 13, none⟩ = some v13 ∧ w.cell? ⟨B, 14, none⟩ = some v14 ∧ w.cell? ⟨B, 15, none⟩ = some v15 ∧ w.cell? ⟨B, 16, none⟩ = some v16 := ⟨h.cell 0, h.cell 1, h.cell 2, h.cell 3, h.cell 4, h.cell 5, h.cell 6, h.cell 7, h.cell 8, h.cell 9, h.cell 10, h.cell 11, h.cell 12, h.cell 13, h.cell 14, h.cell 15, h.cell 16⟩
theorem Try.sizeEng : (Try.prog.info? 34).map (·.size) = some 17 := by kernel_rfl
theorem EngRd.size {w : World} {cs : Array Value} {e : EngD} (h : EngRd w cs e) : cs.size = 17 := by
  obtain ⟨vm, vd, vw, vj, va, vu, rfl, _⟩ := h
  rfl
theorem EngRd.one {w : World} {cs : Array Value} {e : EngD} (h : EngRd w cs e) : cs.toList.all (·.oneCell') = true := by
  obtain ⟨am, cm, ad, cd, aw, cw, aj, cj, aa, ca, au, cu, rfl, _⟩ := h.parts
  rfl
def wtEng (e : EngD) : Nat := wtArr e.ms e.ds + wttCmdS e.ws + wttJobS e.js + wttAnsS e.an + wttTurnS e.ts

set_option maxRecDepth 20000 in
set_option maxHeartbeats 3200000 in
theorem eqEng_same (w : World) (cs cs' : Array Value) (e : EngD) (h : EngRd w cs e) (h' : EngRd w cs' e) (hw : wtEng e ≤ 2097152) :
    Calls Try.prog 7 #[.agg cs, .agg cs'] w fun e' w' => e' = .returned (.bool true) ∧ Below w.heap.size w w' := by
  obtain ⟨x, ms, ds, ws, js, an, ts⟩ := e
  obtain ⟨am, cm, ad, cd, aw, cw, aj, cj, aa, ca, au, cu, rfl, r0, r1, r2, r3, r4, r5⟩ := h.parts
  obtain ⟨em, gm, ed, gd, ew, gw, ej, gj, ea, ga, eu, gu, rfl, s0, s1, s2, s3, s4, s5⟩ := h'.parts
  unfold engC
  have HT : wtArr ms ds + wttCmdS ws + wttJobS js + wttAnsS an + wttTurnS ts ≤ 2097152 := hw
  clear hw
  obtain ⟨l2, _, _⟩ := row_length r2
  obtain ⟨l3, _, _⟩ := row_length r3
  go_enter Try.func7, Try.ntmps7
  go_wp2_with fail
  refine seal_new2 ?_
  intro V A X B
  refine (eqArr_same _ 0 0 0 0 0 0 x _ _ _ _ _ _ _ _ _ _ _ _ ms ds (r0.below B) (r1.below B) (s0.below B) (s1.below B) (by omega)).mono ?_
  rintro e w1 ⟨rfl, b⟩
  have B := Below.andThen B b
  have A := A.below b A.lt
  have X := X.below b X.lt
  obtain ⟨k0, k1, k2, k3, k4, k5, k6, k7, k8, k9, k10, k11, k12, k13, k14, k15, k16⟩ := A.cells17
  obtain ⟨o0, o1, o2, o3, o4, o5, o6, o7, o8, o9, o10, o11, o12, o13, o14, o15, o16⟩ := X.cells17
  clear b
  go_wp2_with fail
  refine (eqCmdS_same _ 0 0 _ _ _ _ _ ws (r2.below B) (s2.below B) (by omega)).mono ?_
  rintro e w2 ⟨rfl, b⟩
  have B := Below.andThen B b
  have A := A.below b A.lt
  have X := X.below b X.lt
  obtain ⟨k0, k1, k2, k3, k4, k5, k6, k7, k8, k9, k10, k11, k12, k13, k14, k15, k16⟩ := A.cells17
  obtain ⟨o0, o1, o2, o3, o4, o5, o6, o7, o8, o9, o10, o11, o12, o13, o14, o15, o16⟩ := X.cells17
  clear b
  go_wp2_with fail
  refine (eqJobS_same _ 0 0 _ _ _ _ _ js (r3.below B) (s3.below B) (by omega)).mono ?_
  rintro e w3 ⟨rfl, b⟩
  have B := Below.andThen B b
  have A := A.below b A.lt
  have X := X.below b X.lt
  obtain ⟨k0, k1, k2, k3, k4, k5, k6, k7, k8, k9, k10, k11, k12, k13, k14, k15, k16⟩ := A.cells17
  obtain ⟨o0, o1, o2, o3, o4, o5, o6, o7, o8, o9, o10, o11, o12, o13, o14, o15, o16⟩ := X.cells17
  clear b
  go_wp2_with fail
  refine (eqAnsS_same _ 0 0 _ _ _ _ _ an (r4.below B) (s4.below B) (by omega)).mono ?_
  rintro e w4 ⟨rfl, b⟩
  have B := Below.andThen B b
  have A := A.below b A.lt
  have X := X.below b X.lt
  obtain ⟨k0, k1, k2, k3, k4, k5, k6, k7, k8, k9, k10, k11, k12, k13, k14, k15, k16⟩ := A.cells17
  obtain ⟨o0, o1, o2, o3, o4, o5, o6, o7, o8, o9, o10, o11, o12, o13, o14, o15, o16⟩ := X.cells17
  clear b
  go_wp2_with fail
  refine (eqTurnS_same _ 0 0 _ _ _ _ _ ts (r5.below B) (s5.below B) (by omega)).mono ?_
  rintro e w5 ⟨rfl, b⟩
  have B := Below.andThen B b
  go_wp2
  go_ret
  exact ⟨rfl, B⟩

end Go.Proofs.Ytgjldmjlbhkgbaa

/-
  Both sides' EngNew walked. No condition.
-/
namespace Go.Proofs.Ytgjldmjlbhkgbaa
open Go.RowKit

def newE (id n s : Int) : EngD := ⟨newX id n s, newAM id n s, [], [], [], [], []⟩
theorem newE_wt (id n s : Int) : wtEng (newE id n s) ≤ 2097152 := newAM_wt id n s

set_option maxRecDepth 20000 in
set_option maxHeartbeats 3200000 in
theorem implEngNew_any (w : World) (id n s : Int) :
    Calls Try.prog 6 #[.int .i64 id, .agg #[.int .i64 n, .int .i64 s]] w fun e' w' => ∃ cs, e' = .returned (.agg cs) ∧ EngOwn w' w.heap.size w'.heap.size cs (newE id n s) ∧ Below w.heap.size w w' := by
  have HE : Hid (newE id n s = ⟨newX id n s, newAM id n s, [], [], [], [], []⟩) := rfl
  have HC := hidden (fun W => implArrNew_any W id n s)
  generalize newE id n s = E at HE ⊢
  generalize newX id n s = x at HE HC
  generalize newAM id n s = ms at HE HC
  go_enter Try.func6, Try.ntmps6
  go_wp2_with fail
  refine seal_new2 ?_
  intro V G R B
  refine (HC.out _).mono ?_
  rintro e w1 ⟨am, cm, rfl, o, b⟩
  have zR := R.lt
  have R := R.below b R.lt
  have B := Below.andThen B b
  have z := b.size
  go_wp2_with (first | (refine wpList_store_box rfl _ _ _ rfl rfl rfl R rfl Try.sizeEng (by rfl) ?_; intro W X hb hz) | fail)
  have o := o.but hb (by omega)
  have HB := hidden (Below.andBut B hb (by omega))
  have hle := hb.size
  have own : tEngS.Own W V.heap.size W.heap.size [.slice am ms.length cm, .slice none 0 0, .slice none 0 0, .slice none 0 0, .slice none 0 0, .slice none 0 0] (ms, [], [], [], [], []) := by
    have u1 := pair_own2 (vs := [_]) (lo := w1.heap.size) (hi := w1.heap.size) (nil_own (t := tAns) (E := 76) W w1.heap.size w1.heap.size) (nil_own (t := tTurn) (E := 79) W w1.heap.size w1.heap.size) (.inl (Nat.le_refl _)) (by omega) (by omega)
    have u2 := pair_own2 (vs := [_]) (lo := w1.heap.size) (hi := w1.heap.size) (nil_own (t := tJob) (E := 73) W w1.heap.size w1.heap.size) u1 (.inl (Nat.le_refl _)) (by omega) (by omega)
    have u3 := pair_own2 (vs := [_]) (lo := w1.heap.size) (hi := w1.heap.size) (nil_own (t := tCmd) (E := 70) W w1.heap.size w1.heap.size) u2 (.inl (Nat.le_refl _)) (by omega) (by omega)
    have u4 := pair_own2 (vs := [_]) (lo := w1.heap.size) (hi := w1.heap.size) (nil_own (t := tWr) (E := 91) W w1.heap.size w1.heap.size) u3 (.inl (Nat.le_refl _)) (by omega) (by omega)
    exact pair_own2 (vs := [_]) (lo := V.heap.size) (hi := W.heap.size) o u4 (.inl (Nat.le_refl _)) (by omega) (by omega)
  have K := hidden (own.widen (show w.heap.size ≤ V.heap.size by omega) (Nat.le_refl W.heap.size))
  clear own o b hb hz B
  obtain ⟨x0, x1, x2, x3, x4, x5, x6, x7, x8, x9, x10, x11, x12, x13, x14, x15, x16⟩ := X.cells17
  go_wp2
  refine bodyPost_ret (v := .agg #[.int .i64 x.id, .int .i64 x.n, .int .i64 x.s, .slice am ms.length cm, .int .i64 x.lost, .int .i64 x.built, .int .i64 x.seq, .int .i64 x.tail, .int .i64 x.gen, .slice none 0 0, .int .i64 x.fuse, .bool x.down, .bool x.broken, .slice none 0 0, .slice none 0 0, .slice none 0 0, .slice none 0 0]) (by simp [results, Try.results6, go_sem, x0, x1, x2, x3, x4, x5, x6, x7, x8, x9, x10, x11, x12, x13, x14, x15, x16]) rfl ⟨_, rfl, ?_, HB.out⟩
  rw [HE.out]
  exact ⟨_, _, _, _, _, _, rfl, K.out⟩

set_option maxRecDepth 20000 in
set_option maxHeartbeats 3200000 in
theorem specEngNew_any (w : World) (id n s : Int) :
    Calls Try.prog 4 #[.int .i64 id, .agg #[.int .i64 n, .int .i64 s]] w fun e' w' => ∃ cs, e' = .returned (.agg cs) ∧ EngOwn w' w.heap.size w'.heap.size cs (newE id n s) ∧ Below w.heap.size w w' := by
  have HE : Hid (newE id n s = ⟨newX id n s, newAM id n s, [], [], [], [], []⟩) := rfl
  have HC := hidden (fun W => specArrNew_any W id n s)
  generalize newE id n s = E at HE ⊢
  generalize newX id n s = x at HE HC
  generalize newAM id n s = ms at HE HC
  go_enter Try.func4, Try.ntmps4
  go_wp2_with fail
  refine seal_new2 ?_
  intro V G R B
  refine (HC.out _).mono ?_
  rintro e w1 ⟨am, cm, rfl, o, b⟩
  have zR := R.lt
  have R := R.below b R.lt
  have B := Below.andThen B b
  have z := b.size
  go_wp2_with (first | (refine wpList_store_box rfl _ _ _ rfl rfl rfl R rfl Try.sizeEng (by rfl) ?_; intro W X hb hz) | fail)
  have o := o.but hb (by omega)
  have HB := hidden (Below.andBut B hb (by omega))
  have hle := hb.size
  have own : tEngS.Own W V.heap.size W.heap.size [.slice am ms.length cm, .slice none 0 0, .slice none 0 0, .slice none 0 0, .slice none 0 0, .slice none 0 0] (ms, [], [], [], [], []) := by
    have u1 := pair_own2 (vs := [_]) (lo := w1.heap.size) (hi := w1.heap.size) (nil_own (t := tAns) (E := 76) W w1.heap.size w1.heap.size) (nil_own (t := tTurn) (E := 79) W w1.heap.size w1.heap.size) (.inl (Nat.le_refl _)) (by omega) (by omega)
    have u2 := pair_own2 (vs := [_]) (lo := w1.heap.size) (hi := w1.heap.size) (nil_own (t := tJob) (E := 73) W w1.heap.size w1.heap.size) u1 (.inl (Nat.le_refl _)) (by omega) (by omega)
    have u3 := pair_own2 (vs := [_]) (lo := w1.heap.size) (hi := w1.heap.size) (nil_own (t := tCmd) (E := 70) W w1.heap.size w1.heap.size) u2 (.inl (Nat.le_refl _)) (by omega) (by omega)
    have u4 := pair_own2 (vs := [_]) (lo := w1.heap.size) (hi := w1.heap.size) (nil_own (t := tWr) (E := 91) W w1.heap.size w1.heap.size) u3 (.inl (Nat.le_refl _)) (by omega) (by omega)
    exact pair_own2 (vs := [_]) (lo := V.heap.size) (hi := W.heap.size) o u4 (.inl (Nat.le_refl _)) (by omega) (by omega)
  have K := hidden (own.widen (show w.heap.size ≤ V.heap.size by omega) (Nat.le_refl W.heap.size))
  clear own o b hb hz B
  obtain ⟨x0, x1, x2, x3, x4, x5, x6, x7, x8, x9, x10, x11, x12, x13, x14, x15, x16⟩ := X.cells17
  go_wp2
  refine bodyPost_ret (v := .agg #[.int .i64 x.id, .int .i64 x.n, .int .i64 x.s, .slice am ms.length cm, .int .i64 x.lost, .int .i64 x.built, .int .i64 x.seq, .int .i64 x.tail, .int .i64 x.gen, .slice none 0 0, .int .i64 x.fuse, .bool x.down, .bool x.broken, .slice none 0 0, .slice none 0 0, .slice none 0 0, .slice none 0 0]) (by simp [results, Try.results4, go_sem, x0, x1, x2, x3, x4, x5, x6, x7, x8, x9, x10, x11, x12, x13, x14, x15, x16]) rfl ⟨_, rfl, ?_, HB.out⟩
  rw [HE.out]
  exact ⟨_, _, _, _, _, _, rfl, K.out⟩

end Go.Proofs.Ytgjldmjlbhkgbaa

/-
  The laws' marks over slices of jobs and of turns, and whether they are held; the latter over slices of commands. Conditions: they weigh at most 2097152, marks between 0 and 16777216.
-/
namespace Go.Proofs.Ytgjldmjlbhkgbaa
open Go.RowKit

def cntJob (x : JobD) : Nat := 6 + (x.2.2.2.2.1.length + x.2.2.2.2.2.2.1.length)
def markJob1 (k : Int) (x : JobD) : JobD := (k, k + 1, k + 1 + 1, k + 1 + 1 + 1, marks id (k + 1 + 1 + 1 + 1) x.2.2.2.2.1.length, k + 1 + 1 + 1 + 1 + (x.2.2.2.2.1.length : Int), marks id (k + 1 + 1 + 1 + 1 + (x.2.2.2.2.1.length : Int) + 1) x.2.2.2.2.2.2.1.length, k + 1 + 1 + 1 + 1 + (x.2.2.2.2.1.length : Int) + 1 + (x.2.2.2.2.2.2.1.length : Int))
def marktJobS (k0 : Int) (d : List JobD) : List JobD := markL cntJob markJob1 k0 d
def cnttJobS (d : List JobD) : Nat := sumL (d.map cntJob)
theorem cnttJobS_le (d : List JobD) : cnttJobS d ≤ 6 * wttJobS d := by
  unfold cnttJobS wttJobS
  induction d with
  | nil => simp [sumL]
  | cons x d ih =>
    simp only [List.map_cons, sumL, List.foldr_cons, List.length_cons] at *
    unfold cntJob wJob at *
    omega

set_option maxHeartbeats 3200000 in
theorem markJobS_fp (w : World) (a : Option Addr) (n cap : Nat) (d : List JobD) (k0 : Int) (fp : List Nat) (h : (tJobS 73).Mine w [.slice a n cap] d fp) (hw : wttJobS d ≤ 2097152) (hk : 0 ≤ k0) (hk' : k0 + (cnttJobS d : Int) ≤ 16777216) :
    Calls Try.prog 19 #[.slice a n cap, .int .i64 k0] w fun e w' => e = .returned (.int .i64 (k0 + (cnttJobS d : Int))) ∧ (tJobS 73).Mine w' [.slice a n cap] (marktJobS k0 d) fp ∧ Turned fp w w' := by
  obtain ⟨hl, hc, hm⟩ := row_length h.rd
  have hmL : (marktJobS k0 d).length = d.length := markL_length _ _ _ _
  have hnn : n ≤ 2097152 := by unfold wttJobS at hw; omega
  go_enter Try.func19, Try.ntmps19
  go_wp2
  go_loopw [1, 5] (fun kk i wr => ∃ j : Nat, j ≤ n ∧ i = .int .i64 j ∧ kk = .int .i64 (k0 + (sumL ((d.map cntJob).take j) : Int)) ∧ (tJobS 73).Mine wr [.slice a n cap] ((marktJobS k0 d).take j ++ d.drop j) fp ∧ Turned fp w wr) (fun _ i _ => n - (intOf i).toNat)
  case atStart => exact ⟨0, Nat.zero_le _, rfl, by simp [sumL], by simpa using h, Turned.refl _ _⟩
  case round =>
    obtain ⟨j, hj, rfl, rfl, ho, hb⟩ := hrel
    by_cases hjn : j < n
    · obtain ⟨o, d1, b1, k, zs, t1, gs, q1, hdj⟩ : ∃ o d1 b1 k zs t1 gs q1, d[j]? = some (o, d1, b1, k, zs, t1, gs, q1) := ⟨_, _, _, _, _, _, _, _, List.getElem?_eq_getElem (by omega)⟩
      have hin := job_inner hdj
      have hlen : zs.length + gs.length ≤ 2097152 := by unfold wttJobS at hw; simp only [wJob] at hin; omega
      have hst := sumL_take (l := d.map cntJob) (j := j) (x := 6 + (zs.length + gs.length)) (by rw [List.getElem?_map, hdj]; rfl)
      have hle := sumL_le (l := d.map cntJob) (j + 1)
      unfold cnttJobS at hk'
      have HM := hidden (turn_step hmL (markL_at (c := cntJob) (mk := markJob1) (k := k0) hdj))
      have hat := turn_at (m := marktJobS k0 d) hmL hdj
      have HW := hidden hst
      generalize sumL ((d.map cntJob).take j) = S at hst HM HW
      have hS : k0 + (S : Int) + 6 + ((zs.length + gs.length : Nat) : Int) ≤ 16777216 := by omega
      rcases row_ow_shape ho with h0' | ⟨g, rfl⟩
      · omega
      obtain ⟨cs1, f1, ow, hgf, hgp, hf1, hcc, hf, _, back⟩ := row_open ho hat
      obtain ⟨v0, v1, v2, v3, v4, v5, v6, v7, rfl⟩ : ∃ v0 v1 v2 v3 v4 v5 v6 v7, cs1 = [v0, v1, v2, v3, v4, v5, v6, v7] := by
        match cs1, tJob.rdLen (tJob.owRd ow.1) with
        | [v0, v1, v2, v3, v4, v5, v6, v7], _ => exact ⟨v0, v1, v2, v3, v4, v5, v6, v7, rfl⟩
      obtain ⟨rfl, ow0⟩ := int_mine ow
      obtain ⟨rfl, ow1⟩ := int_mine ow0
      obtain ⟨rfl, ow2⟩ := int_mine ow1
      obtain ⟨rfl, ow3⟩ := int_mine ow2
      obtain ⟨av0, cv0, fa0, fb0, rfl, he0, m0, ow4, hd0⟩ := ints_mine_p ow3
      obtain ⟨rfl, ow5⟩ := int_mine ow4
      obtain ⟨av1, cv1, fa1, fb1, rfl, he1, m1, ow6, hd1⟩ := ints_mine_p ow5
      obtain ⟨rfl, hfz⟩ := int_mine1 ow6
      subst hfz he1 he0
      have hcA := hcc
      have hc0 : wr.cell? ⟨g, j * 8, none⟩ = some (.int .i64 o) := hcc 0 (by show 0 < 8; omega)
      have hc1 : wr.cell? ⟨g, j * 8 + 1, none⟩ = some (.int .i64 d1) := hcc 1 (by show 1 < 8; omega)
      have hc2 : wr.cell? ⟨g, j * 8 + 2, none⟩ = some (.int .i64 b1) := hcc 2 (by show 2 < 8; omega)
      have hc3 : wr.cell? ⟨g, j * 8 + 3, none⟩ = some (.int .i64 k) := hcc 3 (by show 3 < 8; omega)
      have hc4 : wr.cell? ⟨g, j * 8 + 4, none⟩ = some (.slice av0 zs.length cv0) := hcc 4 (by show 4 < 8; omega)
      have hc5 : wr.cell? ⟨g, j * 8 + 5, none⟩ = some (.int .i64 t1) := hcc 5 (by show 5 < 8; omega)
      have hc6 : wr.cell? ⟨g, j * 8 + 6, none⟩ = some (.slice av1 gs.length cv1) := hcc 6 (by show 6 < 8; omega)
      have hc7 : wr.cell? ⟨g, j * 8 + 7, none⟩ = some (.int .i64 q1) := hcc 7 (by show 7 < 8; omega)
      have hgl : g < wr.heap.size := ho.lt g hgp
      obtain ⟨cur0, hcur⟩ := mine_block ho
      have HBK := hidden back
      have HLT := hidden ho.lt
      have hg0 : g ∉ fa0 := fun hm => hgf (by simp [hm])
      have hg1 : g ∉ fa1 := fun hm => hgf (by simp [hm])
      have hd : ∀ b ∈ fa0, b ∉ fa1 := fun b hb hm => hd0 b hb (by simp [hm])
      have HCC := hidden hcA
      clear hcc hcA back ow ow0 ow1 ow2 ow3 ow4 ow5 ow6 hat hdj ho hst hin
      go_wp2_with fail
      have E := (((((Ed.refl wr g (j * 8)).set 0 (.int .i64 (k0 + (S : Int)))).set 1 (.int .i64 (k0 + (S : Int) + 1))).set 2 (.int .i64 (k0 + (S : Int) + 1 + 1))).set 3 (.int .i64 (k0 + (S : Int) + 1 + 1 + 1)))
      refine (markIntS_fp _ _ _ _ zs _ fa0 (m0.kept E.turned (by intro b hb hm; simp at hm; exact hg0 (hm ▸ hb))) (by omega) (by omega) (by omega)).mono ?_
      rintro e w2 ⟨rfl, o0, tt0⟩
      have E := E.then tt0 hg0
      have hc5 := (E.cellAt 5 hcur (by simp)).trans (HCC.out 5 (by show 5 < 8; omega))
      have hc6 := (E.cellAt 6 hcur (by simp)).trans (HCC.out 6 (by show 6 < 8; omega))
      have hc7 := (E.cellAt 7 hcur (by simp)).trans (HCC.out 7 (by show 7 < 8; omega))
      have hf := E.free hcur
      go_wp2_with fail
      have E := (E.set 5 (.int .i64 (k0 + (S : Int) + 1 + 1 + 1 + 1 + (zs.length : Int))))
      refine (markIntS_fp _ _ _ _ gs _ fa1 (m1.kept E.turned (by intro b hb hm; simp at hm; rcases hm with e | hm; exact hg1 (e ▸ hb); exact hd b hm hb)) (by omega) (by omega) (by omega)).mono ?_
      rintro e w3 ⟨rfl, o1, tt1⟩
      have E := E.then tt1 hg1
      have hc7 := (E.cellAt 7 hcur (by simp)).trans (HCC.out 7 (by show 7 < 8; omega))
      have hf := E.free hcur
      have E := (E.set 7 (.int .i64 (k0 + (S : Int) + 1 + 1 + 1 + 1 + (zs.length : Int) + 1 + (gs.length : Int))))
      have G := ((((Ed.refl w2 g (j * 8)).set 5 (.int .i64 (k0 + (S : Int) + 1 + 1 + 1 + 1 + (zs.length : Int)))).then tt1 hg1).set 7 (.int .i64 (k0 + (S : Int) + 1 + 1 + 1 + 1 + (zs.length : Int) + 1 + (gs.length : Int))))
      have p0 := o0.kept G.turned (by intro b hb hm; simp at hm; rcases hm with e | hm; exact hg0 (e ▸ hb); exact hd b hb hm)
      have H := ((Ed.refl w3 g (j * 8)).set 7 (.int .i64 (k0 + (S : Int) + 1 + 1 + 1 + 1 + (zs.length : Int) + 1 + (gs.length : Int))))
      have p1 := o1.kept H.turned (by intro b hb hm; simp at hm; exact hg1 (hm ▸ hb))
      have hdd0 : ∀ b ∈ fa0, b ∉ fa1 ++ [] := hd0
      have hdd1 : ∀ b ∈ fa1, b ∉ ([] : List Nat) := by simp
      have hO := HBK.out _ [.int .i64 (k0 + (S : Int)), .int .i64 (k0 + (S : Int) + 1), .int .i64 (k0 + (S : Int) + 1 + 1), .int .i64 (k0 + (S : Int) + 1 + 1 + 1), .slice av0 zs.length cv0, .int .i64 (k0 + (S : Int) + 1 + 1 + 1 + 1 + (zs.length : Int)), .slice av1 gs.length cv1, .int .i64 (k0 + (S : Int) + 1 + 1 + 1 + 1 + (zs.length : Int) + 1 + (gs.length : Int))] (k0 + (S : Int), k0 + (S : Int) + 1, k0 + (S : Int) + 1 + 1, k0 + (S : Int) + 1 + 1 + 1, marks id (k0 + (S : Int) + 1 + 1 + 1 + 1) zs.length, k0 + (S : Int) + 1 + 1 + 1 + 1 + (zs.length : Int), marks id (k0 + (S : Int) + 1 + 1 + 1 + 1 + (zs.length : Int) + 1) gs.length, k0 + (S : Int) + 1 + 1 + 1 + 1 + (zs.length : Int) + 1 + (gs.length : Int)) (int_mine_of (int_mine_of (int_mine_of (int_mine_of (ints_mine_of p0 (int_mine_of (ints_mine_of p1 int_mine1_of hdd1)) hdd0)))))
        (fun b hb hbf hbg => E.turned.block b (HLT.out b hb) (by simp at hbf ⊢; exact ⟨hbg, hbf.2, hbf.1⟩)) E.turned.size
        (ed_back (n := 8) E HCC.out hjn rfl)
      have e2 : markJob1 (k0 + (S : Int)) (o, d1, b1, k, zs, t1, gs, q1) = (k0 + (S : Int), k0 + (S : Int) + 1, k0 + (S : Int) + 1 + 1, k0 + (S : Int) + 1 + 1 + 1, marks id (k0 + (S : Int) + 1 + 1 + 1 + 1) zs.length, k0 + (S : Int) + 1 + 1 + 1 + 1 + (zs.length : Int), marks id (k0 + (S : Int) + 1 + 1 + 1 + 1 + (zs.length : Int) + 1) gs.length, k0 + (S : Int) + 1 + 1 + 1 + 1 + (zs.length : Int) + 1 + (gs.length : Int)) := rfl
      rw [← e2, HM.out] at hO
      have HO := hidden hO
      have HB := hidden (hb.trans (E.turned.mono (by intro b hb'; simp at hb'; rcases hb' with e | hb'; exact e ▸ hgp; exact hf1 b (by simp; rcases hb' with h | h <;> simp [h]))))
      clear hO e2 HBK HLT HCC E G H p0 p1 hb o0 o1
      go_wp2
      go_roundw
      case rel => exact ⟨j + 1, by omega, by go_num, by rw [HW.out]; go_num, HO.out, HB.out⟩
      case measure => simp [intOf]; omega
    · go_wp2
      go_ret
      obtain rfl : j = n := by omega
      have ht : (d.map cntJob).take j = d.map cntJob := List.take_of_length_le (by simp; omega)
      rw [List.take_of_length_le (by omega), List.drop_of_length_le (by omega), List.append_nil] at ho
      exact ⟨ret_int (by rw [ht]; rfl), ho, hb⟩

set_option maxRecDepth 20000 in
set_option maxHeartbeats 1600000 in
theorem heldJobS_any (w : World) (E : TypeId) (a : Option Addr) (n cap : Nat) (d : List JobD) (k0 : Int) (h : (tJobS E).Rd w [.slice a n cap] (marktJobS k0 d)) (hw : wttJobS d ≤ 2097152) (hk : 0 ≤ k0) (hk' : k0 + (cnttJobS d : Int) ≤ 16777216) :
    Calls Try.prog 24 #[.slice a n cap, .int .i64 k0] w fun e w' => e = .returned (.int .i64 (k0 + (cnttJobS d : Int))) ∧ Same w w' := by
  obtain ⟨hl, hc, hm⟩ := row_length h
  have hmL : (marktJobS k0 d).length = d.length := markL_length _ _ _ _
  rw [hmL] at hl
  have hn : n ≤ 2097152 := by unfold wttJobS at hw; omega
  go_enter Try.func24, Try.ntmps24
  go_wp2
  go_loopw [1, 5] (fun kk i wr => ∃ j : Nat, j ≤ n ∧ i = .int .i64 j ∧ kk = .int .i64 (k0 + (sumL ((d.map cntJob).take j) : Int)) ∧ Same w wr) (fun _ i _ => n - (intOf i).toNat)
  case atStart => exact ⟨0, Nat.zero_le _, rfl, by simp [sumL], Same.refl _⟩
  case round =>
    obtain ⟨j, hj, rfl, rfl, hs⟩ := hrel
    by_cases hjn : j < n
    · obtain ⟨o, d1, b1, k, zs, t1, gs, q1, hdj⟩ : ∃ o d1 b1 k zs t1 gs q1, d[j]? = some (o, d1, b1, k, zs, t1, gs, q1) := ⟨_, _, _, _, _, _, _, _, List.getElem?_eq_getElem (by omega)⟩
      have hin := job_inner hdj
      have hlen : zs.length + gs.length ≤ 2097152 := by unfold wttJobS at hw; simp only [wJob] at hin; omega
      have hst := sumL_take (l := d.map cntJob) (j := j) (x := 6 + (zs.length + gs.length)) (by rw [List.getElem?_map, hdj]; rfl)
      have hle := sumL_le (l := d.map cntJob) (j + 1)
      unfold cnttJobS at hk'
      rcases jobS_at (h.same hs) with h0' | ⟨b, off, rfl, hbl, hcs⟩
      · omega
      obtain ⟨av0, cv0, av1, cv1, hc0, hc1, hc2, hc3, hc4, hc5, hc6, hc7, hr0, hr1⟩ := hcs j _ _ _ _ _ _ _ _ (markL_at (c := cntJob) (mk := markJob1) (k := k0) hdj)
      have HW := hidden hst
      simp only [marks_length] at hc0 hc1 hc2 hc3 hc4 hc5 hc6 hc7 hr0 hr1
      generalize sumL ((d.map cntJob).take j) = S at hst HW hc0 hc1 hc2 hc3 hc4 hc5 hc6 hc7 hr0 hr1
      clear hcs hdj hin
      go_wp2_with fail
      refine (heldIntS_any _ _ _ _ _ (ints_rd hr0).1 (by omega) (by omega) (by omega)).mono ?_
      rintro e w2 ⟨rfl, hs2⟩
      have hc5 := (hs2.cell _).trans hc5
      have hc6 := (hs2.cell _).trans hc6
      have hc7 := (hs2.cell _).trans hc7
      go_wp2_with fail
      refine (heldIntS_any _ _ _ _ _ (ints_rd (hr1.same hs2)).1 (by omega) (by omega) (by omega)).mono ?_
      rintro e w3 ⟨rfl, hs3⟩
      have hc7 := (hs3.cell _).trans hc7
      have HS := hidden ((hs.trans hs2).trans hs3)
      clear hs hs2 hs3
      go_wp2
      go_roundw
      case rel => exact ⟨j + 1, by omega, by go_num, by rw [HW.out]; go_num, HS.out⟩
      case measure => simp [intOf]; omega
    · go_wp2
      go_ret
      obtain rfl : j = n := by omega
      have ht : (d.map cntJob).take j = d.map cntJob := List.take_of_length_le (by simp; omega)
      exact ⟨ret_int (by rw [ht]; rfl), hs⟩

def cntTurn (x : TurnD) : Nat := 6 + (x.2.2.2.2.1.length + x.2.2.2.2.2.2.2.length)
def markTurn1 (k : Int) (x : TurnD) : TurnD := (k, k + 1, k + 1 + 1, k + 1 + 1 + 1, marks id (k + 1 + 1 + 1 + 1) x.2.2.2.2.1.length, k + 1 + 1 + 1 + 1 + (x.2.2.2.2.1.length : Int), k + 1 + 1 + 1 + 1 + (x.2.2.2.2.1.length : Int) + 1, marks id (k + 1 + 1 + 1 + 1 + (x.2.2.2.2.1.length : Int) + 1 + 1) x.2.2.2.2.2.2.2.length)
def marktTurnS (k0 : Int) (d : List TurnD) : List TurnD := markL cntTurn markTurn1 k0 d
def cnttTurnS (d : List TurnD) : Nat := sumL (d.map cntTurn)
theorem cnttTurnS_le (d : List TurnD) : cnttTurnS d ≤ 6 * wttTurnS d := by
  unfold cnttTurnS wttTurnS
  induction d with
  | nil => simp [sumL]
  | cons x d ih =>
    simp only [List.map_cons, sumL, List.foldr_cons, List.length_cons] at *
    unfold cntTurn wTurn at *
    omega

set_option maxHeartbeats 3200000 in
theorem markTurnS_fp (w : World) (a : Option Addr) (n cap : Nat) (d : List TurnD) (k0 : Int) (fp : List Nat) (h : (tTurnS 79).Mine w [.slice a n cap] d fp) (hw : wttTurnS d ≤ 2097152) (hk : 0 ≤ k0) (hk' : k0 + (cnttTurnS d : Int) ≤ 16777216) :
    Calls Try.prog 21 #[.slice a n cap, .int .i64 k0] w fun e w' => e = .returned (.int .i64 (k0 + (cnttTurnS d : Int))) ∧ (tTurnS 79).Mine w' [.slice a n cap] (marktTurnS k0 d) fp ∧ Turned fp w w' := by
  obtain ⟨hl, hc, hm⟩ := row_length h.rd
  have hmL : (marktTurnS k0 d).length = d.length := markL_length _ _ _ _
  have hnn : n ≤ 2097152 := by unfold wttTurnS at hw; omega
  go_enter Try.func21, Try.ntmps21
  go_wp2
  go_loopw [1, 5] (fun kk i wr => ∃ j : Nat, j ≤ n ∧ i = .int .i64 j ∧ kk = .int .i64 (k0 + (sumL ((d.map cntTurn).take j) : Int)) ∧ (tTurnS 79).Mine wr [.slice a n cap] ((marktTurnS k0 d).take j ++ d.drop j) fp ∧ Turned fp w wr) (fun _ i _ => n - (intOf i).toNat)
  case atStart => exact ⟨0, Nat.zero_le _, rfl, by simp [sumL], by simpa using h, Turned.refl _ _⟩
  case round =>
    obtain ⟨j, hj, rfl, rfl, ho, hb⟩ := hrel
    by_cases hjn : j < n
    · obtain ⟨o, d1, b1, k, zs, d2, q1, ys, hdj⟩ : ∃ o d1 b1 k zs d2 q1 ys, d[j]? = some (o, d1, b1, k, zs, d2, q1, ys) := ⟨_, _, _, _, _, _, _, _, List.getElem?_eq_getElem (by omega)⟩
      have hin := turn_inner hdj
      have hlen : zs.length + ys.length ≤ 2097152 := by unfold wttTurnS at hw; simp only [wTurn] at hin; omega
      have hst := sumL_take (l := d.map cntTurn) (j := j) (x := 6 + (zs.length + ys.length)) (by rw [List.getElem?_map, hdj]; rfl)
      have hle := sumL_le (l := d.map cntTurn) (j + 1)
      unfold cnttTurnS at hk'
      have HM := hidden (turn_step hmL (markL_at (c := cntTurn) (mk := markTurn1) (k := k0) hdj))
      have hat := turn_at (m := marktTurnS k0 d) hmL hdj
      have HW := hidden hst
      generalize sumL ((d.map cntTurn).take j) = S at hst HM HW
      have hS : k0 + (S : Int) + 6 + ((zs.length + ys.length : Nat) : Int) ≤ 16777216 := by omega
      rcases row_ow_shape ho with h0' | ⟨g, rfl⟩
      · omega
      obtain ⟨cs1, f1, ow, hgf, hgp, hf1, hcc, hf, _, back⟩ := row_open ho hat
      obtain ⟨v0, v1, v2, v3, v4, v5, v6, v7, rfl⟩ : ∃ v0 v1 v2 v3 v4 v5 v6 v7, cs1 = [v0, v1, v2, v3, v4, v5, v6, v7] := by
        match cs1, tTurn.rdLen (tTurn.owRd ow.1) with
        | [v0, v1, v2, v3, v4, v5, v6, v7], _ => exact ⟨v0, v1, v2, v3, v4, v5, v6, v7, rfl⟩
      obtain ⟨rfl, ow0⟩ := int_mine ow
      obtain ⟨rfl, ow1⟩ := int_mine ow0
      obtain ⟨rfl, ow2⟩ := int_mine ow1
      obtain ⟨rfl, ow3⟩ := int_mine ow2
      obtain ⟨av0, cv0, fa0, fb0, rfl, he0, m0, ow4, hd0⟩ := ints_mine_p ow3
      obtain ⟨rfl, ow5⟩ := int_mine ow4
      obtain ⟨rfl, ow6⟩ := int_mine ow5
      obtain ⟨av1, cv1, rfl⟩ := row_shape ow6.rd
      subst he0
      have m1 := ow6
      have hcA := hcc
      have hc0 : wr.cell? ⟨g, j * 8, none⟩ = some (.int .i64 o) := hcc 0 (by show 0 < 8; omega)
      have hc1 : wr.cell? ⟨g, j * 8 + 1, none⟩ = some (.int .i64 d1) := hcc 1 (by show 1 < 8; omega)
      have hc2 : wr.cell? ⟨g, j * 8 + 2, none⟩ = some (.int .i64 b1) := hcc 2 (by show 2 < 8; omega)
      have hc3 : wr.cell? ⟨g, j * 8 + 3, none⟩ = some (.int .i64 k) := hcc 3 (by show 3 < 8; omega)
      have hc4 : wr.cell? ⟨g, j * 8 + 4, none⟩ = some (.slice av0 zs.length cv0) := hcc 4 (by show 4 < 8; omega)
      have hc5 : wr.cell? ⟨g, j * 8 + 5, none⟩ = some (.int .i64 d2) := hcc 5 (by show 5 < 8; omega)
      have hc6 : wr.cell? ⟨g, j * 8 + 6, none⟩ = some (.int .i64 q1) := hcc 6 (by show 6 < 8; omega)
      have hc7 : wr.cell? ⟨g, j * 8 + 7, none⟩ = some (.slice av1 ys.length cv1) := hcc 7 (by show 7 < 8; omega)
      have hgl : g < wr.heap.size := ho.lt g hgp
      obtain ⟨cur0, hcur⟩ := mine_block ho
      have HBK := hidden back
      have HLT := hidden ho.lt
      have hg0 : g ∉ fa0 := fun hm => hgf (by simp [hm])
      have hg1 : g ∉ fb0 := fun hm => hgf (by simp [hm])
      have hd : ∀ b ∈ fa0, b ∉ fb0 := fun b hb hm => hd0 b hb (by simp [hm])
      have HCC := hidden hcA
      clear hcc hcA back ow ow0 ow1 ow2 ow3 ow4 ow5 ow6 hat hdj ho hst hin
      go_wp2_with fail
      have E := (((((Ed.refl wr g (j * 8)).set 0 (.int .i64 (k0 + (S : Int)))).set 1 (.int .i64 (k0 + (S : Int) + 1))).set 2 (.int .i64 (k0 + (S : Int) + 1 + 1))).set 3 (.int .i64 (k0 + (S : Int) + 1 + 1 + 1)))
      refine (markIntS_fp _ _ _ _ zs _ fa0 (m0.kept E.turned (by intro b hb hm; simp at hm; exact hg0 (hm ▸ hb))) (by omega) (by omega) (by omega)).mono ?_
      rintro e w2 ⟨rfl, o0, tt0⟩
      have E := E.then tt0 hg0
      have hc5 := (E.cellAt 5 hcur (by simp)).trans (HCC.out 5 (by show 5 < 8; omega))
      have hc6 := (E.cellAt 6 hcur (by simp)).trans (HCC.out 6 (by show 6 < 8; omega))
      have hc7 := (E.cellAt 7 hcur (by simp)).trans (HCC.out 7 (by show 7 < 8; omega))
      have hf := E.free hcur
      go_wp2_with fail
      have E := ((E.set 5 (.int .i64 (k0 + (S : Int) + 1 + 1 + 1 + 1 + (zs.length : Int)))).set 6 (.int .i64 (k0 + (S : Int) + 1 + 1 + 1 + 1 + (zs.length : Int) + 1)))
      refine (markIntS_fp _ _ _ _ ys _ fb0 (m1.kept E.turned (by intro b hb hm; simp at hm; rcases hm with e | hm; exact hg1 (e ▸ hb); exact hd b hm hb)) (by omega) (by omega) (by omega)).mono ?_
      rintro e w3 ⟨rfl, o1, tt1⟩
      have E := E.then tt1 hg1
      have hf := E.free hcur
      have G := ((((Ed.refl w2 g (j * 8)).set 5 (.int .i64 (k0 + (S : Int) + 1 + 1 + 1 + 1 + (zs.length : Int)))).set 6 (.int .i64 (k0 + (S : Int) + 1 + 1 + 1 + 1 + (zs.length : Int) + 1))).then tt1 hg1)
      have p0 := o0.kept G.turned (by intro b hb hm; simp at hm; rcases hm with e | hm; exact hg0 (e ▸ hb); exact hd b hb hm)
      have p1 := o1
      have hdd0 : ∀ b ∈ fa0, b ∉ fb0 := hd0
      have hO := HBK.out _ [.int .i64 (k0 + (S : Int)), .int .i64 (k0 + (S : Int) + 1), .int .i64 (k0 + (S : Int) + 1 + 1), .int .i64 (k0 + (S : Int) + 1 + 1 + 1), .slice av0 zs.length cv0, .int .i64 (k0 + (S : Int) + 1 + 1 + 1 + 1 + (zs.length : Int)), .int .i64 (k0 + (S : Int) + 1 + 1 + 1 + 1 + (zs.length : Int) + 1), .slice av1 ys.length cv1] (k0 + (S : Int), k0 + (S : Int) + 1, k0 + (S : Int) + 1 + 1, k0 + (S : Int) + 1 + 1 + 1, marks id (k0 + (S : Int) + 1 + 1 + 1 + 1) zs.length, k0 + (S : Int) + 1 + 1 + 1 + 1 + (zs.length : Int), k0 + (S : Int) + 1 + 1 + 1 + 1 + (zs.length : Int) + 1, marks id (k0 + (S : Int) + 1 + 1 + 1 + 1 + (zs.length : Int) + 1 + 1) ys.length) (int_mine_of (int_mine_of (int_mine_of (int_mine_of (ints_mine_of p0 (int_mine_of (int_mine_of p1)) hdd0)))))
        (fun b hb hbf hbg => E.turned.block b (HLT.out b hb) (by simp at hbf ⊢; exact ⟨hbg, hbf.2, hbf.1⟩)) E.turned.size
        (ed_back (n := 8) E HCC.out hjn rfl)
      have e2 : markTurn1 (k0 + (S : Int)) (o, d1, b1, k, zs, d2, q1, ys) = (k0 + (S : Int), k0 + (S : Int) + 1, k0 + (S : Int) + 1 + 1, k0 + (S : Int) + 1 + 1 + 1, marks id (k0 + (S : Int) + 1 + 1 + 1 + 1) zs.length, k0 + (S : Int) + 1 + 1 + 1 + 1 + (zs.length : Int), k0 + (S : Int) + 1 + 1 + 1 + 1 + (zs.length : Int) + 1, marks id (k0 + (S : Int) + 1 + 1 + 1 + 1 + (zs.length : Int) + 1 + 1) ys.length) := rfl
      rw [← e2, HM.out] at hO
      have HO := hidden hO
      have HB := hidden (hb.trans (E.turned.mono (by intro b hb'; simp at hb'; rcases hb' with e | hb'; exact e ▸ hgp; exact hf1 b (by simp; rcases hb' with h | h <;> simp [h]))))
      clear hO e2 HBK HLT HCC E G  p0 p1 hb o0 o1
      go_wp2
      go_roundw
      case rel => exact ⟨j + 1, by omega, by go_num, by rw [HW.out]; go_num, HO.out, HB.out⟩
      case measure => simp [intOf]; omega
    · go_wp2
      go_ret
      obtain rfl : j = n := by omega
      have ht : (d.map cntTurn).take j = d.map cntTurn := List.take_of_length_le (by simp; omega)
      rw [List.take_of_length_le (by omega), List.drop_of_length_le (by omega), List.append_nil] at ho
      exact ⟨ret_int (by rw [ht]; rfl), ho, hb⟩

set_option maxRecDepth 20000 in
set_option maxHeartbeats 1600000 in
theorem heldTurnS_any (w : World) (E : TypeId) (a : Option Addr) (n cap : Nat) (d : List TurnD) (k0 : Int) (h : (tTurnS E).Rd w [.slice a n cap] (marktTurnS k0 d)) (hw : wttTurnS d ≤ 2097152) (hk : 0 ≤ k0) (hk' : k0 + (cnttTurnS d : Int) ≤ 16777216) :
    Calls Try.prog 26 #[.slice a n cap, .int .i64 k0] w fun e w' => e = .returned (.int .i64 (k0 + (cnttTurnS d : Int))) ∧ Same w w' := by
  obtain ⟨hl, hc, hm⟩ := row_length h
  have hmL : (marktTurnS k0 d).length = d.length := markL_length _ _ _ _
  rw [hmL] at hl
  have hn : n ≤ 2097152 := by unfold wttTurnS at hw; omega
  go_enter Try.func26, Try.ntmps26
  go_wp2
  go_loopw [1, 5] (fun kk i wr => ∃ j : Nat, j ≤ n ∧ i = .int .i64 j ∧ kk = .int .i64 (k0 + (sumL ((d.map cntTurn).take j) : Int)) ∧ Same w wr) (fun _ i _ => n - (intOf i).toNat)
  case atStart => exact ⟨0, Nat.zero_le _, rfl, by simp [sumL], Same.refl _⟩
  case round =>
    obtain ⟨j, hj, rfl, rfl, hs⟩ := hrel
    by_cases hjn : j < n
    · obtain ⟨o, d1, b1, k, zs, d2, q1, ys, hdj⟩ : ∃ o d1 b1 k zs d2 q1 ys, d[j]? = some (o, d1, b1, k, zs, d2, q1, ys) := ⟨_, _, _, _, _, _, _, _, List.getElem?_eq_getElem (by omega)⟩
      have hin := turn_inner hdj
      have hlen : zs.length + ys.length ≤ 2097152 := by unfold wttTurnS at hw; simp only [wTurn] at hin; omega
      have hst := sumL_take (l := d.map cntTurn) (j := j) (x := 6 + (zs.length + ys.length)) (by rw [List.getElem?_map, hdj]; rfl)
      have hle := sumL_le (l := d.map cntTurn) (j + 1)
      unfold cnttTurnS at hk'
      rcases turnS_at (h.same hs) with h0' | ⟨b, off, rfl, hbl, hcs⟩
      · omega
      obtain ⟨av0, cv0, av1, cv1, hc0, hc1, hc2, hc3, hc4, hc5, hc6, hc7, hr0, hr1⟩ := hcs j _ _ _ _ _ _ _ _ (markL_at (c := cntTurn) (mk := markTurn1) (k := k0) hdj)
      have HW := hidden hst
      simp only [marks_length] at hc0 hc1 hc2 hc3 hc4 hc5 hc6 hc7 hr0 hr1
      generalize sumL ((d.map cntTurn).take j) = S at hst HW hc0 hc1 hc2 hc3 hc4 hc5 hc6 hc7 hr0 hr1
      clear hcs hdj hin
      go_wp2_with fail
      refine (heldIntS_any _ _ _ _ _ (ints_rd hr0).1 (by omega) (by omega) (by omega)).mono ?_
      rintro e w2 ⟨rfl, hs2⟩
      have hc5 := (hs2.cell _).trans hc5
      have hc6 := (hs2.cell _).trans hc6
      have hc7 := (hs2.cell _).trans hc7
      go_wp2_with fail
      refine (heldIntS_any _ _ _ _ _ (ints_rd (hr1.same hs2)).1 (by omega) (by omega) (by omega)).mono ?_
      rintro e w3 ⟨rfl, hs3⟩
      have HS := hidden ((hs.trans hs2).trans hs3)
      clear hs hs2 hs3
      go_wp2
      go_roundw
      case rel => exact ⟨j + 1, by omega, by go_num, by rw [HW.out]; go_num, HS.out⟩
      case measure => simp [intOf]; omega
    · go_wp2
      go_ret
      obtain rfl : j = n := by omega
      have ht : (d.map cntTurn).take j = d.map cntTurn := List.take_of_length_le (by simp; omega)
      exact ⟨ret_int (by rw [ht]; rfl), hs⟩

set_option maxRecDepth 20000 in
set_option maxHeartbeats 1600000 in
theorem heldCmdS_any (w : World) (E : TypeId) (a : Option Addr) (n cap : Nat) (d : List CmdD) (k0 : Int) (h : (tCmdS E).Rd w [.slice a n cap] (marktCmdS k0 d)) (hw : wttCmdS d ≤ 2097152) (hk : 0 ≤ k0) (hk' : k0 + (cnttCmdS d : Int) ≤ 16777216) :
    Calls Try.prog 23 #[.slice a n cap, .int .i64 k0] w fun e w' => e = .returned (.int .i64 (k0 + (cnttCmdS d : Int))) ∧ Same w w' := by
  obtain ⟨hl, hc, hm⟩ := row_length h
  have hmL : (marktCmdS k0 d).length = d.length := markL_length _ _ _ _
  rw [hmL] at hl
  have hn : n ≤ 2097152 := by unfold wttCmdS at hw; omega
  go_enter Try.func23, Try.ntmps23
  go_wp2
  go_loopw [1, 5] (fun kk i wr => ∃ j : Nat, j ≤ n ∧ i = .int .i64 j ∧ kk = .int .i64 (k0 + (sumL ((d.map cntCmd).take j) : Int)) ∧ Same w wr) (fun _ i _ => n - (intOf i).toNat)
  case atStart => exact ⟨0, Nat.zero_le _, rfl, by simp [sumL], Same.refl _⟩
  case round =>
    obtain ⟨j, hj, rfl, rfl, hs⟩ := hrel
    by_cases hjn : j < n
    · obtain ⟨o, d1, b1, k, zs, hdj⟩ : ∃ o d1 b1 k zs, d[j]? = some (o, d1, b1, k, zs) := ⟨_, _, _, _, _, List.getElem?_eq_getElem (by omega)⟩
      have hin := cmd_inner hdj
      have hlen : zs.length ≤ 2097152 := by unfold wttCmdS at hw; simp only at hin; omega
      have hst := sumL_take (l := d.map cntCmd) (j := j) (x := 4 + (zs.length)) (by rw [List.getElem?_map, hdj]; rfl)
      have hle := sumL_le (l := d.map cntCmd) (j + 1)
      unfold cnttCmdS at hk'
      rcases cmdS_at (h.same hs) with h0' | ⟨b, off, rfl, hbl, hcs⟩
      · omega
      obtain ⟨av0, cv0, hc0, hc1, hc2, hc3, hc4, hr0⟩ := hcs j _ _ _ _ _ (markL_at (c := cntCmd) (mk := markCmd1) (k := k0) hdj)
      have HW := hidden hst
      simp only [marks_length] at hc0 hc1 hc2 hc3 hc4 hr0
      generalize sumL ((d.map cntCmd).take j) = S at hst HW hc0 hc1 hc2 hc3 hc4 hr0
      clear hcs hdj hin
      go_wp2_with fail
      refine (heldIntS_any _ _ _ _ _ (ints_rd hr0).1 (by omega) (by omega) (by omega)).mono ?_
      rintro e w2 ⟨rfl, hs2⟩
      have HS := hidden (hs.trans hs2)
      clear hs hs2
      go_wp2
      go_roundw
      case rel => exact ⟨j + 1, by omega, by go_num, by rw [HW.out]; go_num, HS.out⟩
      case measure => simp [intOf]; omega
    · go_wp2
      go_ret
      obtain rfl : j = n := by omega
      have ht : (d.map cntCmd).take j = d.map cntCmd := List.take_of_length_le (by simp; omega)
      exact ⟨ret_int (by rw [ht]; rfl), hs⟩

end Go.Proofs.Ytgjldmjlbhkgbaa

/-
  The walk of the laws' mark over an array: its disks and stripes are marked in place. Condition: it weighs at most 2097152.
-/
namespace Go.Proofs.Ytgjldmjlbhkgbaa
open Go.RowKit

set_option maxHeartbeats 1600000 in
theorem markArr_own (w : World) (lo m hi : Nat) (x : ArrN) (bm bd : Option Addr) (nm cm nd cd : Nat) (ms : List MemD) (ds : List (Int × List Int)) (h0 : (tMemS 100 57).Own w lo m [.slice bm nm cm] ms) (h1 : (tWrS 91).Own w m hi [.slice bd nd cd] ds) (hlm : lo ≤ m) (hmh : m ≤ hi) (hhi : hi ≤ w.heap.size) (hw : wtArr ms ds ≤ 2097152) :
    Calls Try.prog 17 #[.agg #[.int .i64 x.id, .int .i64 x.n, .int .i64 x.s, .slice bm nm cm, .int .i64 x.lost, .int .i64 x.built, .int .i64 x.seq, .int .i64 x.tail, .int .i64 x.gen, .slice bd nd cd, .int .i64 x.fuse, .bool x.down, .bool x.broken], .int .i64 1] w fun e w' => e = .returned (.int .i64 (1 + (cntMS ms : Int) + (cntWS ds : Int))) ∧ (tMemS 100 57).Own w' lo m [.slice bm nm cm] (markMS 1 ms) ∧ (tWrS 91).Own w' m hi [.slice bd nd cd] (markW (1 + (cntMS ms : Int)) ds) ∧ But lo hi w w' := by
  have hw0 : wtMemS ms ≤ 2097152 := by unfold wtArr at hw; omega
  have hw1 : wtWrS ds ≤ 2097152 := by unfold wtArr at hw; omega
  have hcm := cntMS_le ms
  have hA := new_below w (.cells #[.int .i64 x.id, .int .i64 x.n, .int .i64 x.s, .slice bm nm cm, .int .i64 x.lost, .int .i64 x.built, .int .i64 x.seq, .int .i64 x.tail, .int .i64 x.gen, .slice bd nd cd, .int .i64 x.fuse, .bool x.down, .bool x.broken] 28)
  have A := Box.new w 28 #[.int .i64 x.id, .int .i64 x.n, .int .i64 x.s, .slice bm nm cm, .int .i64 x.lost, .int .i64 x.built, .int .i64 x.seq, .int .i64 x.tail, .int .i64 x.gen, .slice bd nd cd, .int .i64 x.fuse, .bool x.down, .bool x.broken]
  obtain ⟨k0, k1, k2, k3, k4, k5, k6, k7, k8, k9, k10, k11, k12⟩ := A.cells13
  have o0 := h0.below hA
  have o1 := h1.below hA
  have zA := A.lt
  go_enter Try.func17, Try.ntmps17
  go_wp2_with fail
  generalize w.alloc (.cells #[.int .i64 x.id, .int .i64 x.n, .int .i64 x.s, .slice bm nm cm, .int .i64 x.lost, .int .i64 x.built, .int .i64 x.seq, .int .i64 x.tail, .int .i64 x.gen, .slice bd nd cd, .int .i64 x.fuse, .bool x.down, .bool x.broken] 28) = W at hA A o0 o1 zA k0 k1 k2 k3 k4 k5 k6 k7 k8 k9 k10 k11 k12 ⊢
  obtain ⟨f0, m0, r0⟩ := o0.mine
  refine (markMemS_fp _ _ _ _ ms 1 f0 m0 hw0 (by omega) (by omega)).mono ?_
  rintro e w1 ⟨rfl, p0, t1⟩
  have hb1 := t1.but (lo := lo) (hi := m) r0
  have q0 := p0.own r0
  have q1 := o1.but hb1 (.inr (Nat.le_refl _))
  have A1 := A.kept (hb1.block _ zA (by omega))
  have B1 := (But.of_below (lo := lo) (hi := hi) hA).trans ⟨hb1.os, hb1.tape, hb1.output, hb1.size, fun k hk ho => hb1.block k hk (by omega)⟩
  clear k0 k1 k2 k3 k4 k5 k6 k7 k8 k9 k10 k11 k12 A hb1 t1 p0 m0 o0 o1 hA
  obtain ⟨k0, k1, k2, k3, k4, k5, k6, k7, k8, k9, k10, k11, k12⟩ := A1.cells13
  obtain ⟨f1, m1, r1⟩ := q1.mine
  have hwa : (wtMemS ms : Int) + (wtWrS ds : Int) ≤ 2097152 := by unfold wtArr at hw; omega
  go_wp2_with fail
  refine (markEntS_fp _ _ _ _ ds (1 + (cntMS ms : Int)) f1 m1 hw1 (by omega) (by omega)).mono ?_
  rintro e w2 ⟨rfl, p1, t2⟩
  have hb2 := t2.but (lo := m) (hi := hi) r1
  have s1 := hidden (p1.own r1)
  have s0 := hidden (q0.but hb2 (.inl (Nat.le_refl _)))
  have B2 := hidden (B1.trans ⟨hb2.os, hb2.tape, hb2.output, hb2.size, fun k hk ho => hb2.block k hk (by omega)⟩)
  clear k0 k1 k2 k3 k4 k5 k6 k7 k8 k9 k10 k11 k12 A1 hb2 t2 p1 m1 q0 q1 B1
  go_wp2
  go_ret
  exact ⟨rfl, s0.out, s1.out, B2.out⟩

end Go.Proofs.Ytgjldmjlbhkgbaa

/-
  The walks of the laws' helpers that ask whether the marks of an array's disks, and of the array, are held. Conditions: it weighs at most 2097152, the marks from 0 on to 2097153.
-/
namespace Go.Proofs.Ytgjldmjlbhkgbaa
open Go.RowKit

set_option maxRecDepth 20000 in
set_option maxHeartbeats 1600000 in
theorem heldMemS_any (w : World) (E F : TypeId) (a : Option Addr) (n cap : Nat) (d : List MemD) (k0 : Int) (h : (tMemS E F).Rd w [.slice a n cap] (markMS k0 d)) (hw : wtMemS d ≤ 2097152) (hk : 0 ≤ k0) (hk' : k0 + (wtMemS d : Int) ≤ 2097153) :
    Calls Try.prog 46 #[.slice a n cap, .int .i64 k0] w fun e w' => e = .returned (.int .i64 (k0 + (cntMS d : Int))) ∧ Same w w' := by
  obtain ⟨hl, hc, hm⟩ := row_length h
  have hmL : (markMS k0 d).length = d.length := markL_length _ _ _ _
  rw [hmL] at hl
  have hnn : n ≤ 2097152 := by unfold wtMemS at hw; omega
  have hwt := cntMS_le d
  go_enter Try.func46, Try.ntmps46
  go_wp2
  go_loopw [1, 5] (fun kk i wr => ∃ j : Nat, j ≤ n ∧ i = .int .i64 j ∧ kk = .int .i64 (k0 + (sumL ((d.map cntMD).take j) : Int)) ∧ Same w wr) (fun _ i _ => n - (intOf i).toNat)
  case atStart => exact ⟨0, Nat.zero_le _, rfl, by simp [sumL], Same.refl _⟩
  case round =>
    obtain ⟨j, hj, rfl, rfl, hs⟩ := hrel
    by_cases hjn : j < n
    · have hdj : d[j]? = some (d[j]'(by omega)) := List.getElem?_eq_getElem (by omega)
      generalize d[j]'(by omega) = x at hdj
      have hst := sumL_take (l := d.map cntMD) (j := j) (x := cntMD x) (by rw [List.getElem?_map, hdj]; rfl)
      have hle := sumL_le (l := d.map cntMD) (j + 1)
      have hin := Nat.le_trans (inner_leM hdj) hw
      unfold cntMS at hwt
      have hmj := markL_at (c := cntMD) (mk := markMD) (k := k0) hdj
      have HW := hidden hst
      generalize sumL ((d.map cntMD).take j) = S at hst hmj HW
      rcases quads_at rfl h with h0' | ⟨b, off, rfl, hbl, hcs⟩
      · omega
      obtain ⟨v0, v1, v2, v3, hv0, hv1, hv2, hv3, hrv⟩ := hcs j _ hmj
      obtain ⟨ss, cs, f, bs⟩ := x
      obtain ⟨a0, c0, a1, c1, a3, c3, ss', cs', f', bs', hx, rfl, rfl, rfl, rfl, r0, r1, r3⟩ := mem_at hrv
      have hcx : cntMD (ss, cs, f, bs) = cntSS ss + cntWS cs + 1 + bs.length := rfl
      have hin0 : wtIntSS ss ≤ 2097152 := by unfold wtMem at hin; simp only at hin; omega
      have hin1 : wtWrS cs ≤ 2097152 := by unfold wtMem at hin; simp only at hin; omega
      have hin3 : bs.length ≤ 2097152 := by unfold wtMem at hin; simp only at hin; omega
      have hcw := Nat.le_of_eq (cntWS_wt cs)
      have hcw' := Nat.le_of_eq (cntWS_wt cs).symm
      have hS : k0 + (S : Int) + (cntSS ss : Int) + (cntWS cs : Int) + 1 + (bs.length : Int) ≤ 2097153 := by omega
      unfold markMD at hx
      simp only [Prod.mk.injEq] at hx
      obtain ⟨e0, e1, e2, e3⟩ := hx
      subst e0
      subst e1
      subst e3
      rw [marks_length] at hv3 r3
      have w0 := (hs.cell _).trans hv0
      have w1 := (hs.cell _).trans hv1
      have w2 := (hs.cell _).trans hv2
      have w3 := (hs.cell _).trans hv3
      have HE2 := hidden e2
      have i1 : (0 : Int) ≤ (j : Int) := by omega
      have i2 : (j : Int) < (n : Int) := by omega
      have R0 := r0.same hs
      have R1 := r1.same hs
      have R3 := r3.same hs
      clear hcs hst hdj hv0 hv1 hv2 hv3 hrv hmj e2 r0 r1 r3
      go_wp2_with fail
      refine (heldIntSS_any _ _ _ _ ss _ R0 hin0 (by omega) (by omega)).mono ?_
      rintro e u1 ⟨rfl, s1⟩
      have w1' := (s1.cell _).trans w1
      have w2' := (s1.cell _).trans w2
      have w3' := (s1.cell _).trans w3
      have R1' := R1.same s1
      have R3' := R3.same s1
      clear w0 w1 w2 w3 R0 R1 R3
      have p1 : ¬ k0 + (S : Int) + (cntSS ss : Int) < 0 := by omega
      go_wp2_with fail
      refine (heldWrS_any _ E _ _ _ cs _ R1' hin1 (by omega) (by omega)).mono ?_
      rintro e u2 ⟨rfl, s2⟩
      have w2 := (s2.cell _).trans w2'
      have w3 := (s2.cell _).trans w3'
      have R3 := ints_rd (R3'.same s2)
      clear w1' w2' w3' R1' R3'
      have hK : 0 ≤ k0 + (S : Int) + (cntSS ss : Int) + (cntWS cs : Int) ∧ k0 + (S : Int) + (cntSS ss : Int) + (cntWS cs : Int) ≤ 2097153 := by omega
      have HKK : Hid (k0 + (S : Int) + (cntSS ss : Int) + (cntWS cs : Int) + 1 + (bs.length : Int) = k0 + ((S + cntMD (ss, cs, f, bs) : Nat) : Int)) := by unfold Hid; rw [hcx]; omega
      generalize hKd : k0 + (S : Int) + (cntSS ss : Int) + (cntWS cs : Int) = K at hK HKK HE2 R3 hS ⊢
      clear hKd
      have p2 : ¬ K < 0 := by omega
      have t1 : K.tmod 3 = K % 3 := Int.tmod_eq_emod_of_nonneg hK.1
      have t2 : IntKind.i64.wrap (K % 3) = K % 3 := IntWalk.i64_in _ (by omega)
      have t3 : IntKind.i64.wrap (K + 1) = K + 1 := IntWalk.i64_in _ (by omega)
      have p3 : ¬ K + 1 + (bs.length : Int) < 0 := by omega
      have t4 : f' = (K % 3 == 0) := by rw [← HE2.out]; rfl
      have t5 : ((K % 3 == 0) != (K % 3 == 0)) = false := by simp
      have t6 : ((K % 3 == 0) == (K % 3 == 0)) = true := by simp
      subst t4
      clear HE2
      go_wp2_with fail
      refine (heldIntS_any _ _ _ _ _ R3.1 (by omega) (by omega) (by omega)).mono ?_
      rintro e u3 ⟨rfl, s3⟩
      have HS := hidden (((hs.trans s1).trans s2).trans s3)
      clear s1 s2 s3 hs R3 w2 w3
      go_wp2
      go_roundw
      case rel => exact ⟨j + 1, by omega, by go_num, by rw [HW.out, HKK.out], HS.out⟩
      case measure => simp [intOf]; omega
    · have ej : j = n := by omega
      subst ej
      have ht : (d.map cntMD).take j = d.map cntMD := List.take_of_length_le (by simp; omega)
      have HT : Hid (k0 + (sumL ((d.map cntMD).take j) : Int) = k0 + (cntMS d : Int)) := by unfold Hid cntMS; rw [ht]
      clear ht
      go_wp2
      go_ret
      exact ⟨ret_int HT.out, hs⟩

set_option maxRecDepth 20000 in
set_option maxHeartbeats 1600000 in
theorem heldArr_any (w : World) (E F G : TypeId) (x : ArrN) (bm bd : Option Addr) (nm cm nd cd : Nat) (ms : List MemD) (ds : List (Int × List Int)) (h0 : (tMemS E F).Rd w [.slice bm nm cm] (markMS 1 ms)) (h1 : (tWrS G).Rd w [.slice bd nd cd] (markW (1 + (cntMS ms : Int)) ds)) (hw : wtArr ms ds ≤ 2097152) :
    Calls Try.prog 22 #[.agg #[.int .i64 x.id, .int .i64 x.n, .int .i64 x.s, .slice bm nm cm, .int .i64 x.lost, .int .i64 x.built, .int .i64 x.seq, .int .i64 x.tail, .int .i64 x.gen, .slice bd nd cd, .int .i64 x.fuse, .bool x.down, .bool x.broken], .int .i64 1] w fun e w' => e = .returned (.int .i64 (1 + (cntMS ms : Int) + (cntWS ds : Int))) ∧ Below w.heap.size w w' := by
  have hw0 : wtMemS ms ≤ 2097152 := by unfold wtArr at hw; omega
  have hw1 : wtWrS ds ≤ 2097152 := by unfold wtArr at hw; omega
  have hws : wtMemS ms + wtWrS ds ≤ 2097152 := by unfold wtArr at hw; omega
  have hcm := cntMS_le ms
  have hA := new_below w (.cells #[.int .i64 x.id, .int .i64 x.n, .int .i64 x.s, .slice bm nm cm, .int .i64 x.lost, .int .i64 x.built, .int .i64 x.seq, .int .i64 x.tail, .int .i64 x.gen, .slice bd nd cd, .int .i64 x.fuse, .bool x.down, .bool x.broken] 28)
  have X := Box.new w 28 #[.int .i64 x.id, .int .i64 x.n, .int .i64 x.s, .slice bm nm cm, .int .i64 x.lost, .int .i64 x.built, .int .i64 x.seq, .int .i64 x.tail, .int .i64 x.gen, .slice bd nd cd, .int .i64 x.fuse, .bool x.down, .bool x.broken]
  obtain ⟨k0, k1, k2, k3, k4, k5, k6, k7, k8, k9, k10, k11, k12⟩ := X.cells13
  have r0 := h0.below hA
  have r1 := h1.below hA
  go_enter Try.func22, Try.ntmps22
  go_wp2_with fail
  generalize w.alloc (.cells #[.int .i64 x.id, .int .i64 x.n, .int .i64 x.s, .slice bm nm cm, .int .i64 x.lost, .int .i64 x.built, .int .i64 x.seq, .int .i64 x.tail, .int .i64 x.gen, .slice bd nd cd, .int .i64 x.fuse, .bool x.down, .bool x.broken] 28) = W at hA X r0 r1 k0 k1 k2 k3 k4 k5 k6 k7 k8 k9 k10 k11 k12 ⊢
  refine (heldMemS_any _ E F _ _ _ ms _ r0 hw0 (by omega) (by omega)).mono ?_
  rintro e w1 ⟨rfl, s1⟩
  have X1 := X.same s1
  have r2 := r1.same s1
  have B1 := Below.andSame hA s1
  clear k0 k1 k2 k3 k4 k5 k6 k7 k8 k9 k10 k11 k12 X r0 r1 s1 hA
  obtain ⟨k0, k1, k2, k3, k4, k5, k6, k7, k8, k9, k10, k11, k12⟩ := X1.cells13
  have p1 : ¬ 1 + (cntMS ms : Int) < 0 := by omega
  go_wp2_with fail
  refine (heldEntS_any _ G _ _ _ ds _ r2 hw1 (by omega) (by omega)).mono ?_
  rintro e w2 ⟨rfl, s2⟩
  have B2 := Below.andSame B1 s2
  have p2 : ¬ 1 + (cntMS ms : Int) + (cntWS ds : Int) < 0 := by omega
  clear k0 k1 k2 k3 k4 k5 k6 k7 k8 k9 k10 k11 k12 X1 r2 s2 B1
  go_wp2
  go_ret
  exact ⟨rfl, B2⟩

end Go.Proofs.Ytgjldmjlbhkgbaa

/-
  The laws' marks over an engine, and whether they are held. Condition: it weighs at most 2097152.
-/
namespace Go.Proofs.Ytgjldmjlbhkgbaa
open Go.RowKit

def cntEng (e : EngD) : Nat := cntMS e.ms + cntWS e.ds + cnttCmdS e.ws + cnttJobS e.js + cnttAnsS e.an + cnttTurnS e.ts
/-- The marks of an engine, from 1 on. -/
def markEngD (e : EngD) : EngD := ⟨e.x, markMS 1 e.ms, markW (1 + (cntMS e.ms : Int)) e.ds, marktCmdS (1 + (cntMS e.ms : Int) + (cntWS e.ds : Int)) e.ws, marktJobS (1 + (cntMS e.ms : Int) + (cntWS e.ds : Int) + (cnttCmdS e.ws : Int)) e.js, marktAnsS (1 + (cntMS e.ms : Int) + (cntWS e.ds : Int) + (cnttCmdS e.ws : Int) + (cnttJobS e.js : Int)) e.an, marktTurnS (1 + (cntMS e.ms : Int) + (cntWS e.ds : Int) + (cnttCmdS e.ws : Int) + (cnttJobS e.js : Int) + (cnttAnsS e.an : Int)) e.ts⟩

set_option maxHeartbeats 1600000 in
theorem markArr_fp (w : World) (x : ArrN) (bm bd : Option Addr) (nm cm nd cd : Nat) (ms : List MemD) (ds : List (Int × List Int)) (f0 f1 : List Nat) (h0 : (tMemS 100 57).Mine w [.slice bm nm cm] ms f0) (h1 : (tWrS 91).Mine w [.slice bd nd cd] ds f1) (hdis : ∀ b ∈ f0, b ∉ f1) (hw : wtArr ms ds ≤ 2097152) :
    Calls Try.prog 17 #[.agg #[.int .i64 x.id, .int .i64 x.n, .int .i64 x.s, .slice bm nm cm, .int .i64 x.lost, .int .i64 x.built, .int .i64 x.seq, .int .i64 x.tail, .int .i64 x.gen, .slice bd nd cd, .int .i64 x.fuse, .bool x.down, .bool x.broken], .int .i64 1] w fun e w' => e = .returned (.int .i64 (1 + (cntMS ms : Int) + (cntWS ds : Int))) ∧ (tMemS 100 57).Mine w' [.slice bm nm cm] (markMS 1 ms) f0 ∧ (tWrS 91).Mine w' [.slice bd nd cd] (markW (1 + (cntMS ms : Int)) ds) f1 ∧ Turned (f0 ++ f1) w w' := by
  have hcm := cntMS_le ms
  have hwa : wtMemS ms + wtWrS ds ≤ 2097152 := hw
  go_enter Try.func17, Try.ntmps17
  go_wp2_with fail
  refine seal_new ?_
  intro V A B
  refine (markMemS_fp _ _ _ _ ms 1 f0 (h0.below B) (by omega) (by omega) (by omega)).mono ?_
  rintro e w1 ⟨rfl, p0, t1⟩
  have hA0 : w.heap.size ∉ f0 := fun hm => by have := h0.lt _ hm; omega
  obtain ⟨k0, k1, k2, k3, k4, k5, k6, k7, k8, k9, k10, k11, k12⟩ := (A.turned t1 hA0).cells13
  go_wp2_with fail
  refine (markEntS_fp _ _ _ _ ds (1 + (cntMS ms : Int)) f1 ((h1.below B).kept t1 (fun b hb hb' => hdis b hb' hb)) (by omega) (by omega) (by omega)).mono ?_
  rintro e w2 ⟨rfl, p1, t2⟩
  have s0 := hidden (p0.kept t2 hdis)
  have s1 := hidden p1
  have T := hidden (((Turned.ofBelow B (f0 ++ f1)).trans (t1.mono (fun b hb => List.mem_append_left _ hb))).trans (t2.mono (fun b hb => List.mem_append_right _ hb)))
  clear t1 t2 p0 p1 B A
  go_wp2
  go_ret
  exact ⟨rfl, s0.out, s1.out, T.out⟩

set_option maxRecDepth 20000 in
set_option maxHeartbeats 3200000 in
theorem markEng_fp (w : World) (x : ArrN) (vm vd vw vj va vu : Value) (e : EngD) (fp : List Nat) (h : tEngS.Mine w [vm, vd, vw, vj, va, vu] e.dat fp) (hx : e.x = x) (hw : wtEng e ≤ 2097152) :
    Calls Try.prog 8 #[.agg (engC x vm vd vw vj va vu), .int .i64 1] w fun e' w' => e' = .returned (.int .i64 (1 + (cntEng e : Int))) ∧ tEngS.Mine w' [vm, vd, vw, vj, va, vu] (markEngD e).dat fp ∧ Turned fp w w' := by
  subst hx
  obtain ⟨x, ms, ds, ws, js, an, ts⟩ := e
  have HT : wtArr ms ds + wttCmdS ws + wttJobS js + wttAnsS an + wttTurnS ts ≤ 2097152 := hw
  clear hw
  have hwa : wtMemS ms + wtWrS ds ≤ wtArr ms ds := Nat.le_refl _
  have hcm := cntMS_le ms
  have hcw := Nat.le_of_eq (cntWS_wt ds)
  have hc2 := cnttCmdS_le ws
  have hc3 := cnttJobS_le js
  have hc4 := cnttAnsS_le an
  have hc5 := cnttTurnS_le ts
  obtain ⟨f0, u0, e0, m0, n0, d0⟩ := pair_mine (t := tMemS 100 57) (vs := [_]) rfl h
  obtain ⟨f1, u1, e1, m1, n1, d1⟩ := pair_mine (t := tWrS 91) (vs := [_]) rfl n0
  obtain ⟨f2, u2, e2, m2, n2, d2⟩ := pair_mine (t := tCmdS 70) (vs := [_]) rfl n1
  obtain ⟨f3, u3, e3, m3, n3, d3⟩ := pair_mine (t := tJobS 73) (vs := [_]) rfl n2
  obtain ⟨f4, u4, e4, m4, n4, d4⟩ := pair_mine (t := tAnsS 76) (vs := [_]) rfl n3
  obtain ⟨am, cm, rfl⟩ := row_shape m0.rd
  obtain ⟨ad, cd, rfl⟩ := row_shape m1.rd
  obtain ⟨aw, cw, rfl⟩ := row_shape m2.rd
  obtain ⟨aj, cj, rfl⟩ := row_shape m3.rd
  obtain ⟨aa, ca, rfl⟩ := row_shape m4.rd
  obtain ⟨au, cu, rfl⟩ := row_shape n4.rd
  have m5 := n4
  subst e4 e3 e2 e1 e0
  clear n0 n1 n2 n3 n4 h
  have D0 := hidden d0
  have D1 := hidden d1
  have D2 := hidden d2
  have D3 := hidden d3
  have D4 := hidden d4
  have x01 : ∀ b ∈ f0, b ∉ f1 := fun b hb hm => d0 b hb (by simp [hm])
  have hA : w.heap.size ∉ f0 ++ (f1 ++ (f2 ++ (f3 ++ (f4 ++ u4)))) := fun hm => by
    simp at hm
    rcases hm with h | h | h | h | h | h
    · have := m0.lt _ h; omega
    · have := m1.lt _ h; omega
    · have := m2.lt _ h; omega
    · have := m3.lt _ h; omega
    · have := m4.lt _ h; omega
    · have := m5.lt _ h; omega
  have HA := hidden hA
  clear d0 d1 d2 d3 d4 hA
  unfold engC
  go_enter Try.func8, Try.ntmps8
  go_wp2_with fail
  refine seal_new ?_
  intro V A B
  refine (markArr_fp _ x _ _ _ _ _ _ ms ds f0 f1 (m0.below B) (m1.below B) x01 (by omega)).mono ?_
  rintro e w1 ⟨rfl, p0, p1, t1⟩
  have q2 := (m2.below B).kept t1 (fun b hb hm => by simp at hm; rcases hm with h | h; exact D0.out b h (by simp [hb]); exact D1.out b h (by simp [hb]))
  have q3 := (m3.below B).kept t1 (fun b hb hm => by simp at hm; rcases hm with h | h; exact D0.out b h (by simp [hb]); exact D1.out b h (by simp [hb]))
  have q4 := (m4.below B).kept t1 (fun b hb hm => by simp at hm; rcases hm with h | h; exact D0.out b h (by simp [hb]); exact D1.out b h (by simp [hb]))
  have q5 := (m5.below B).kept t1 (fun b hb hm => by simp at hm; rcases hm with h | h; exact D0.out b h (by simp [hb]); exact D1.out b h (by simp [hb]))
  have A := A.turned t1 (fun hm => HA.out (by simp at hm ⊢; rcases hm with h | h <;> simp [h]))
  have T := hidden ((Turned.ofBelow B (f0 ++ (f1 ++ (f2 ++ (f3 ++ (f4 ++ u4)))))).trans (t1.mono (fun b hb => by simp at hb ⊢; rcases hb with h | h <;> simp [h])))
  clear m0 m1 m2 m3 m4 m5 t1 B x01
  obtain ⟨k0, k1, k2, k3, k4, k5, k6, k7, k8, k9, k10, k11, k12, k13, k14, k15, k16⟩ := A.cells17
  go_wp2_with fail
  refine (markCmdS_fp _ _ _ _ ws (1 + (cntMS ms : Int) + (cntWS ds : Int)) f2 q2 (by omega) (by omega) (by omega)).mono ?_
  rintro e w2 ⟨rfl, p2, t⟩
  have p0 := p0.kept t (fun b hb hm => D0.out b hb (by simp [hm]))
  have p1 := p1.kept t (fun b hb hm => D1.out b hb (by simp [hm]))
  have q3 := q3.kept t (fun b hb hm => D2.out b hm (by simp [hb]))
  have q4 := q4.kept t (fun b hb hm => D2.out b hm (by simp [hb]))
  have q5 := q5.kept t (fun b hb hm => D2.out b hm (by simp [hb]))
  have A := A.turned t (fun hm => HA.out (by simp [hm]))
  have T := hidden (T.out.trans (t.mono (fun b hb => by simp [hb])))
  clear t q2
  obtain ⟨k0, k1, k2, k3, k4, k5, k6, k7, k8, k9, k10, k11, k12, k13, k14, k15, k16⟩ := A.cells17
  go_wp2_with fail
  refine (markJobS_fp _ _ _ _ js (1 + (cntMS ms : Int) + (cntWS ds : Int) + (cnttCmdS ws : Int)) f3 q3 (by omega) (by omega) (by omega)).mono ?_
  rintro e w3 ⟨rfl, p3, t⟩
  have p0 := p0.kept t (fun b hb hm => D0.out b hb (by simp [hm]))
  have p1 := p1.kept t (fun b hb hm => D1.out b hb (by simp [hm]))
  have p2 := p2.kept t (fun b hb hm => D2.out b hb (by simp [hm]))
  have q4 := q4.kept t (fun b hb hm => D3.out b hm (by simp [hb]))
  have q5 := q5.kept t (fun b hb hm => D3.out b hm (by simp [hb]))
  have A := A.turned t (fun hm => HA.out (by simp [hm]))
  have T := hidden (T.out.trans (t.mono (fun b hb => by simp [hb])))
  clear t q3
  obtain ⟨k0, k1, k2, k3, k4, k5, k6, k7, k8, k9, k10, k11, k12, k13, k14, k15, k16⟩ := A.cells17
  go_wp2_with fail
  refine (markAnsS_fp _ _ _ _ an (1 + (cntMS ms : Int) + (cntWS ds : Int) + (cnttCmdS ws : Int) + (cnttJobS js : Int)) f4 q4 (by omega) (by omega) (by omega)).mono ?_
  rintro e w4 ⟨rfl, p4, t⟩
  have p0 := p0.kept t (fun b hb hm => D0.out b hb (by simp [hm]))
  have p1 := p1.kept t (fun b hb hm => D1.out b hb (by simp [hm]))
  have p2 := p2.kept t (fun b hb hm => D2.out b hb (by simp [hm]))
  have p3 := p3.kept t (fun b hb hm => D3.out b hb (by simp [hm]))
  have q5 := q5.kept t (fun b hb hm => D4.out b hm (by simp [hb]))
  have A := A.turned t (fun hm => HA.out (by simp [hm]))
  have T := hidden (T.out.trans (t.mono (fun b hb => by simp [hb])))
  clear t q4
  obtain ⟨k0, k1, k2, k3, k4, k5, k6, k7, k8, k9, k10, k11, k12, k13, k14, k15, k16⟩ := A.cells17
  go_wp2_with fail
  refine (markTurnS_fp _ _ _ _ ts (1 + (cntMS ms : Int) + (cntWS ds : Int) + (cnttCmdS ws : Int) + (cnttJobS js : Int) + (cnttAnsS an : Int)) u4 q5 (by omega) (by omega) (by omega)).mono ?_
  rintro e w5 ⟨rfl, p5, t⟩
  have p0 := p0.kept t (fun b hb hm => D0.out b hb (by simp [hm]))
  have p1 := p1.kept t (fun b hb hm => D1.out b hb (by simp [hm]))
  have p2 := p2.kept t (fun b hb hm => D2.out b hb (by simp [hm]))
  have p3 := p3.kept t (fun b hb hm => D3.out b hb (by simp [hm]))
  have p4 := p4.kept t (fun b hb hm => D4.out b hb (by simp [hm]))
  have A := A.turned t (fun hm => HA.out (by simp [hm]))
  have T := hidden (T.out.trans (t.mono (fun b hb => by simp [hb])))
  clear t q5
  have P := hidden (pair_mine_of (vs := [_]) p0 (pair_mine_of (vs := [_]) p1 (pair_mine_of (vs := [_]) p2 (pair_mine_of (vs := [_]) p3 (pair_mine_of (vs := [_]) p4 p5 D4.out) D3.out) D2.out) D1.out) D0.out)
  clear p0 p1 p2 p3 p4 p5 A
  have HC : Hid ((1 : Int) + (cntEng ⟨x, ms, ds, ws, js, an, ts⟩ : Int) = 1 + (cntMS ms : Int) + (cntWS ds : Int) + (cnttCmdS ws : Int) + (cnttJobS js : Int) + (cnttAnsS an : Int) + (cnttTurnS ts : Int)) := by unfold Hid cntEng; simp only; omega
  go_wp2
  go_ret
  exact ⟨ret_int HC.out.symm, P.out, T.out⟩

set_option maxRecDepth 20000 in
set_option maxHeartbeats 3200000 in
theorem heldEng_any (w : World) (cs : Array Value) (e : EngD) (h : EngRd w cs (markEngD e)) (hw : wtEng e ≤ 2097152) :
    Calls Try.prog 9 #[.agg cs, .int .i64 1] w fun e' w' => e' = .returned (.int .i64 (1 + (cntEng e : Int))) ∧ Below w.heap.size w w' := by
  obtain ⟨x, ms, ds, ws, js, an, ts⟩ := e
  obtain ⟨am, cm, ad, cd, aw, cw, aj, cj, aa, ca, au, cu, rfl, r0, r1, r2, r3, r4, r5⟩ := h.parts
  unfold engC
  have HT : wtArr ms ds + wttCmdS ws + wttJobS js + wttAnsS an + wttTurnS ts ≤ 2097152 := hw
  have hwa : wtMemS ms + wtWrS ds ≤ wtArr ms ds := Nat.le_refl _
  have hcm := cntMS_le ms
  have hcw := Nat.le_of_eq (cntWS_wt ds)
  have hc2 := cnttCmdS_le ws
  have hc3 := cnttJobS_le js
  have hc4 := cnttAnsS_le an
  have hc5 := cnttTurnS_le ts
  clear hw h
  dsimp only [markEngD] at r0 r1 r2 r3 r4 r5 ⊢
  go_enter Try.func9, Try.ntmps9
  go_wp2_with fail
  refine seal_new ?_
  intro V A B
  refine (heldArr_any _ 0 0 0 x _ _ _ _ _ _ ms ds (r0.below B) (r1.below B) (by omega)).mono ?_
  rintro e w1 ⟨rfl, b⟩
  have A := A.below b A.lt
  have B := Below.andThen B b
  have g0 : ¬ 1 + (cntMS ms : Int) + (cntWS ds : Int) < 0 := by omega
  obtain ⟨k0, k1, k2, k3, k4, k5, k6, k7, k8, k9, k10, k11, k12, k13, k14, k15, k16⟩ := A.cells17
  go_wp2_with fail
  refine (heldCmdS_any _ 0 _ _ _ ws (1 + (cntMS ms : Int) + (cntWS ds : Int)) (r2.below B) (by omega) (by omega) (by omega)).mono ?_
  rintro e w2 ⟨rfl, b⟩
  have A := A.same b
  have B := Below.andSame B b
  have g1 : ¬ 1 + (cntMS ms : Int) + (cntWS ds : Int) + (cnttCmdS ws : Int) < 0 := by omega
  obtain ⟨k0, k1, k2, k3, k4, k5, k6, k7, k8, k9, k10, k11, k12, k13, k14, k15, k16⟩ := A.cells17
  go_wp2_with fail
  refine (heldJobS_any _ 0 _ _ _ js (1 + (cntMS ms : Int) + (cntWS ds : Int) + (cnttCmdS ws : Int)) (r3.below B) (by omega) (by omega) (by omega)).mono ?_
  rintro e w3 ⟨rfl, b⟩
  have A := A.same b
  have B := Below.andSame B b
  have g2 : ¬ 1 + (cntMS ms : Int) + (cntWS ds : Int) + (cnttCmdS ws : Int) + (cnttJobS js : Int) < 0 := by omega
  obtain ⟨k0, k1, k2, k3, k4, k5, k6, k7, k8, k9, k10, k11, k12, k13, k14, k15, k16⟩ := A.cells17
  go_wp2_with fail
  refine (heldAnsS_any _ 0 _ _ _ an (1 + (cntMS ms : Int) + (cntWS ds : Int) + (cnttCmdS ws : Int) + (cnttJobS js : Int)) (r4.below B) (by omega) (by omega) (by omega)).mono ?_
  rintro e w4 ⟨rfl, b⟩
  have A := A.same b
  have B := Below.andSame B b
  have g3 : ¬ 1 + (cntMS ms : Int) + (cntWS ds : Int) + (cnttCmdS ws : Int) + (cnttJobS js : Int) + (cnttAnsS an : Int) < 0 := by omega
  obtain ⟨k0, k1, k2, k3, k4, k5, k6, k7, k8, k9, k10, k11, k12, k13, k14, k15, k16⟩ := A.cells17
  go_wp2_with fail
  refine (heldTurnS_any _ 0 _ _ _ ts (1 + (cntMS ms : Int) + (cntWS ds : Int) + (cnttCmdS ws : Int) + (cnttJobS js : Int) + (cnttAnsS an : Int)) (r5.below B) (by omega) (by omega) (by omega)).mono ?_
  rintro e w5 ⟨rfl, b⟩
  have A := A.same b
  have B := Below.andSame B b
  have g5 : ¬ 1 + (cntMS ms : Int) + (cntWS ds : Int) + (cnttCmdS ws : Int) + (cnttJobS js : Int) + (cnttAnsS an : Int) + (cnttTurnS ts : Int) < 0 := by omega
  have HC : Hid ((1 : Int) + (cntEng ⟨x, ms, ds, ws, js, an, ts⟩ : Int) = 1 + (cntMS ms : Int) + (cntWS ds : Int) + (cnttCmdS ws : Int) + (cnttJobS js : Int) + (cnttAnsS an : Int) + (cnttTurnS ts : Int)) := by unfold Hid cntEng; simp only; omega
  go_wp2
  go_ret
  exact ⟨ret_int HC.out.symm, B⟩

theorem markEng_own (w : World) (lo hi : Nat) (cs : Array Value) (e : EngD) (h : EngOwn w lo hi cs e) (hw : wtEng e ≤ 2097152) :
    Calls Try.prog 8 #[.agg cs, .int .i64 1] w fun e' w' => e' = .returned (.int .i64 (1 + (cntEng e : Int))) ∧ EngOwn w' lo hi cs (markEngD e) ∧ But lo hi w w' := by
  obtain ⟨vm, vd, vw, vj, va, vu, rfl, h2⟩ := h
  obtain ⟨fp, m, r⟩ := h2.mine
  refine (markEng_fp w e.x _ _ _ _ _ _ e fp m rfl hw).mono ?_
  rintro e' w' ⟨rfl, m2, t⟩
  exact ⟨rfl, ⟨_, _, _, _, _, _, rfl, m2.own r⟩, t.but r⟩

end Go.Proofs.Ytgjldmjlbhkgbaa

/-
  Plain lemmas: a struct is loaded whole in a region that draws its order; one is stored whole into the block that was made last. No condition; nothing of the program is named here.
-/
namespace Go.Proofs.Ytgjldmjlbhkgbaa
open Go.RowKit

section
variable {P : Program} {ops : Array Oper} {rest : List Oper} {op : Oper} {a : Act} {w : World} {Q : Exit → Act → World → Prop} {S : World → Prop} {B : Nat} {T : TypeId} {cs cs' z : Array Value}
theorem wpList_store_new (hgd : op.guard = none) (T' : TypeId) (x y : Operand) (ho : op.op = .store T' x y) (hx : a.eval x = .pointer (some ⟨w.heap.size, 0, none⟩)) (hy : a.eval y = .agg cs') (hs : z.size = cs'.size) (hi : (P.info? T').map (·.size) = some cs'.size) (h1 : cs'.toList.all (·.oneCell') = true)
    (h : ∀ V, Box V w.heap.size T cs' → Below w.heap.size w V → wpList P ops Q rest (a.put op.dst undef) V) : wpList P ops Q (op :: rest) a (w.alloc (.cells z T)) :=
  wpList_store_box hgd T' x y ho hx hy (Box.new w T z) hs hi h1 (fun V X hb _ => h V X (Below.andBut (new_below w _) hb (Nat.le_refl _)))
theorem held_load (i : Nat) {oi : Oper} {fuel : Nat} {l : Array Bool} {tl : List Oper} {T' : TypeId} {x : Operand} {d : TypeDesc} (hSb : ∀ w, S w → Box w B T cs) (hu : P.underlying T' = some d) (hsz : (P.info? T').map (·.size) = some cs.size) (hS : S w) (h : wpAnyH P .any ops Q S fuel (l.setIfInBounds i true) (a.put oi.dst (.agg cs)) w)
    (hi : ops.toList.drop i = oi :: tl := by rfl) (ho : oi.op = .load T' x := by rfl) (hx : a.eval x = .pointer (some ⟨B, 0, none⟩) := by rfl) (hd : d.isRow = true := by rfl) (hs : Region.noSelect ops = true := by kernel_rfl) (hf : Region.free .any ops l i = true := by kernel_rfl) (hr : (Region.ready .any ops l).contains i = true := by kernel_rfl)
    (hQ : ∀ c a w, Q (.panic c) (a.put oi.dst (.agg cs)) w → Q (.panic c) a w := by exact fun _ _ _ h => h) (hw : Region.wanted oi (yielded ops a.tmps) = true := by kernel_rfl) : wpAnyH P .any ops Q S (fuel + 1) l a w :=
  wpAnyH_take (op_at hi) hs hf hr hQ (Or.inl ⟨hw, fun w' hw' => by
    unfold execOp
    simp only [ho, hx, Sem.run_bind, run_load_box T' d (hSb w' hw') hu hd hsz, Result.andThen_ok, Sem.run_pure]⟩) hS h
theorem wp_store_box {K : Act → World → Prop} (T' : TypeId) (x y : Operand) (ho : op.op = .store T' x y) (hx : a.eval x = .pointer (some ⟨B, 0, none⟩)) (hy : a.eval y = .agg cs') (X : Box w B T cs) (hs : cs.size = cs'.size) (hi : (P.info? T').map (·.size) = some cs'.size) (h1 : cs'.toList.all (·.oneCell') = true)
    (h : ∀ V, Box V B T cs' → But B (B + 1) w V → V.heap.size = w.heap.size → K (a.put op.dst undef) V) : Oper.wp P op a w K Q :=
  wp_store_mid T' x y ho B 0 cs' hx hy (fun j hj => ⟨by rw [Nat.zero_add, X.cell j, Array.getElem?_eq_getElem (by omega)]; rfl, X.frozen _⟩) hi (by rw [← Array.all_toList]; exact h1)
    (h _ (X.stored hs) (But.cells (Nat.le_refl _) (Nat.lt_succ_self _) _ _ _) (setCells_size _ _ _))
end

end Go.Proofs.Ytgjldmjlbhkgbaa

/-
  The walk of the exact law of EngNew: at every number and every Geo it answers true, and nothing that was there has turned. No condition.
-/
namespace Go.Proofs.Ytgjldmjlbhkgbaa
open Go.RowKit

set_option maxRecDepth 20000 in
set_option maxHeartbeats 3200000 in
theorem fnExactEngNew_walk (id n s : Int) (w : World) :
    Calls Try.prog 3 #[.int .i64 id, .agg #[.int .i64 n, .int .i64 s]] w fun e' w' => e' = .returned (.bool true) ∧ Below w.heap.size w w' := by
  obtain ⟨E, HSP, HIM, hwt⟩ : ∃ E : EngD, Hid (∀ W : World, Calls Try.prog 4 #[.int .i64 id, .agg #[.int .i64 n, .int .i64 s]] W fun e' w' => ∃ cs, e' = .returned (.agg cs) ∧ EngOwn w' W.heap.size w'.heap.size cs E ∧ Below W.heap.size W w') ∧ Hid (∀ W : World, Calls Try.prog 6 #[.int .i64 id, .agg #[.int .i64 n, .int .i64 s]] W fun e' w' => ∃ cs, e' = .returned (.agg cs) ∧ EngOwn w' W.heap.size w'.heap.size cs E ∧ Below W.heap.size W w') ∧ wtEng E ≤ 2097152 :=
    ⟨newE id n s, fun W => specEngNew_any W id n s, fun W => implEngNew_any W id n s, newE_wt id n s⟩
  go_enter Try.func3, Try.ntmps3
  go_wp2_with fail
  refine seal_new ?_
  intro V L B
  have zL0 := L.lt
  refine (toGeo_any _ _ _).mono ?_
  rintro e1 w1 ⟨rfl, b⟩
  have z1 := b.size
  have L := L.below b L.lt
  have B := Below.andThen B b
  clear b
  go_wp2_with fail
  refine (HSP.out _).mono ?_
  rintro e2 w2 ⟨c2, rfl, o2, b⟩
  have L := L.below b L.lt
  have B := Below.andThen B b
  have I2 : (Try.prog.info? 34).map (·.size) = some c2.size := by rw [o2.rd.size]; exact Try.sizeEng
  have O2 := o2.rd.one
  have S2 := o2.rd.size
  have z2 := b.size
  have W2 := hidden o2
  clear b o2
  go_wp2_with (first | (refine wpList_store_new rfl _ _ _ rfl rfl rfl S2.symm I2 O2 ?_; intro V3 W b3; have L := L.below b3 L.lt; obtain ⟨l0, l1⟩ := L.cells2) | fail)
  have B := Below.andThen B b3
  have W3 := hidden (W2.out.below b3)
  have zW3 := W.lt
  have z3 := b3.size
  clear W2 b3 l0 l1 S2 O2
  refine (toGeo_any _ _ _).mono ?_
  rintro e4 w4 ⟨rfl, b⟩
  have L := L.below b L.lt
  have W := W.below b W.lt
  have B := Below.andThen B b
  have W4 := hidden (W3.out.below b)
  have z4 := b.size
  clear b W3
  go_wp2_with fail
  refine (HIM.out _).mono ?_
  rintro e5 w5 ⟨c5, rfl, o5, b⟩
  have L := L.below b L.lt
  have W := W.below b W.lt
  have B := Below.andThen B b
  have W5 := hidden (W4.out.below b)
  have I5 : (Try.prog.info? 34).map (·.size) = some c5.size := by rw [o5.rd.size]; exact Try.sizeEng
  have O5 := o5.rd.one
  have S5 := o5.rd.size
  have z5 := b.size
  have G5 := hidden o5
  clear b o5 W4
  go_wp2_with (first | (refine wpList_store_new rfl _ _ _ rfl rfl rfl S5.symm I5 O5 ?_; intro V6 G b6; have W := W.below b6 W.lt) | (refine wpList_load_box rfl _ _ rfl rfl G _ Try.underlying34 rfl I5 ?_) | (refine wpList_load_box rfl _ _ rfl rfl W _ Try.underlying34 rfl I2 ?_) | fail)
  have L := L.below b6 L.lt
  have B := Below.andThen B b6
  have W6 := hidden (W5.out.below b6)
  have G6 := hidden (G5.out.below b6)
  have z6 := b6.size
  clear b6 W5 G5 S5 O5
  refine (eqEng_same _ c5 c2 E G6.out.rd W6.out.rd hwt).mono ?_
  rintro e7 w7 ⟨rfl, b⟩
  have L := L.below b L.lt
  have W := W.below b W.lt
  have G := G.below b G.lt
  have B := Below.andThen B b
  have W7 := hidden (W6.out.below b)
  have G7 := hidden (G6.out.below b)
  have z7 := b.size
  have zL := L.lt
  have zW := W.lt
  have zG := G.lt
  clear b W6 G6
  go_wp2_with (first | (refine wpList_load_box rfl _ _ rfl rfl G _ Try.underlying34 rfl I5 ?_) | fail)
  refine (markEng_own _ _ _ c5 E G7.out hwt).mono ?_
  rintro e8 w8 ⟨rfl, o8, b⟩
  have L := L.kept (b.block _ zL (by omega))
  have W := W.kept (b.block _ zW (by omega))
  have G := G.kept (b.block _ zG (by omega))
  have B := Below.andBut B b (by omega)
  have W8 := hidden (W7.out.but b (by omega))
  have G8 := hidden o8
  have z8 := b.size
  have hc0 : ¬ (1 : Int) + (cntEng E : Int) < 0 := by omega
  have CE := hidden (heldEng_any · c5 E · hwt)
  generalize (1 : Int) + (cntEng E : Int) = N at hc0 CE ⊢
  have hN : (N != N) = false := by simp
  clear b W7 G7 o8
  go_wp2_with (first | (refine wpList_load_box rfl _ _ rfl rfl G _ Try.underlying34 rfl I5 ?_) | fail)
  refine (CE.out _ G8.out.rd).mono ?_
  rintro e9 w9 ⟨rfl, b⟩
  have L := L.below b L.lt
  have W := W.below b W.lt
  have G := G.below b G.lt
  have B := Below.andThen B b
  have W9 := hidden (W8.out.below b)
  have G9 := hidden (G8.out.below b)
  clear b W8 G8
  obtain ⟨l0, l1⟩ := L.cells2
  go_wp2_with fail
  clear l0 l1
  refine (toGeo_any _ _ _).mono ?_
  rintro e10 w10 ⟨rfl, b⟩
  have W := W.below b W.lt
  have G := G.below b G.lt
  have B := Below.andThen B b
  have W10 := hidden (W9.out.below b)
  have G10 := hidden (G9.out.below b)
  clear b W9 G9 L
  go_wp2_with fail
  refine (HIM.out _).mono ?_
  rintro e11 w11 ⟨c11, rfl, o11, b⟩
  have W := W.below b W.lt
  have G := G.below b G.lt
  have B := Below.andThen B b
  have W11 := hidden (W10.out.below b)
  have G11 := hidden (G10.out.below b)
  have I11 : (Try.prog.info? 34).map (·.size) = some c11.size := by rw [o11.rd.size]; exact Try.sizeEng
  have O11 := o11.rd.one
  have S11 := o11.rd.size
  have H11 := hidden o11
  clear b o11 W10 G10
  go_wp2_with (first | (refine wpList_store_new rfl _ _ _ rfl rfl rfl S11.symm I11 O11 ?_; intro V12 H b12; have W := W.below b12 W.lt) | (refine wpList_load_box rfl _ _ rfl rfl H _ Try.underlying34 rfl I11 ?_) | (refine wpList_load_box rfl _ _ rfl rfl W _ Try.underlying34 rfl I2 ?_) | fail)
  have G := G.below b12 G.lt
  have B := Below.andThen B b12
  have W12 := hidden (W11.out.below b12)
  have G12 := hidden (G11.out.below b12)
  have H12 := hidden (H11.out.below b12)
  clear b12 W11 G11 H11 S11 O11
  refine (eqEng_same _ c11 c2 E H12.out.rd W12.out.rd hwt).mono ?_
  rintro e13 w13 ⟨rfl, b⟩
  have G := G.below b G.lt
  have B := Below.andThen B b
  have G13 := hidden (G12.out.below b)
  clear b W12 G12 H12 W H
  go_wp2_with (first | (refine wpList_load_box rfl _ _ rfl rfl G _ Try.underlying34 rfl I5 ?_) | fail)
  refine (CE.out _ G13.out.rd).mono ?_
  rintro e14 w14 ⟨rfl, b⟩
  have B := Below.andThen B b
  go_wp2
  go_ret
  exact ⟨rfl, B⟩

end Go.Proofs.Ytgjldmjlbhkgbaa

namespace Go.Proofs.Ytgjldmjlbhkgbaa.fnExactEngNew
open Go.ChangeShapes Go.WideShapes Go.ChangeAt Go.RowKit Go.Joins
open Go.ChangeMaps (open_string shut_string)
set_option linter.unusedVariables false

theorem own : ownKnob Try.prog.godebug = none := by kernel_rfl
theorem laidOut : laidOutB Try.prog = true := by kernel_rfl

set_option maxRecDepth 100000 in
theorem lifted (os : Os) (started : os.Started) (H : Type) (enc : TypeId × Value → H) :
    ReturnsInHanded {} Try.checked os 3 .any (Rows.fnExactEngNewSpec.pre6 enc Try.prog Try.f3 Rows.fnExactEngNewRow.domain false) (Rows.fnExactEngNewSpec.post enc Try.prog Try.f3 false true false false) := by
  refine returnsInHanded_of_change (C := Try.checked) own started (by kernel_rfl) Try.func3
    (ChangeSpec.witness6 (enc := enc) (C := Try.checked) false ⟨#[], #[.int .i64 0, .agg #[.int .i64 0, .int .i64 0]], []⟩ 8 (by kernel_rfl) (by kernel_rfl) (by kernel_rfl) (by kernel_rfl)) ?_
  intro W base args ds gs before hval0 hW hcnd _
  have hval : ∀ (j : Nat) t v, Try.f3.params[j]? = some t → args[j]? = some v → Value.okWide Try.prog W .any base t v := hval0
  have hW' := hW
  obtain ⟨p, q, hA0, hV, rfl, hfz, hnd⟩ := hW
  have hA : DataW.TrodAll enc Try.prog W 0 (fun _ => true) true Try.f3.params.toList args.toList ds p := hA0
  rw [Try.params3] at hA hval
  obtain ⟨v0, vs0, d0, ds0, p0, q0, hargs0, rfl, rfl, h0, r0⟩ := trodAll_cons hA
  obtain ⟨v1, vs1, d1, ds1, p1, q1, hargs1, rfl, rfl, h1, r1⟩ := trodAll_cons r0
  obtain ⟨rfl, rfl, rfl⟩ := trodAll_nil r1
  obtain rfl : args = #[v0, v1] := by cases args; simp_all
  obtain ⟨rfl, rfl⟩ := trodVars_none hV
  have k0 := h0
  have lt0 : ∀ x ∈ p0, x.block < W.heap.size := by obtain ⟨m, hm⟩ := k0; exact DataW.trod_lt m _ _ _ hm
  obtain ⟨x0, hv0, _, _, wf0⟩ := open_int Try.underlying3 (hval 0 3 v0 rfl rfl) h0
  subst hv0
  have k1 := h1
  have lt1 : ∀ x ∈ p1, x.block < W.heap.size := by obtain ⟨m, hm⟩ := k1; exact DataW.trod_lt m _ _ _ hm
  obtain ⟨u1_0, u1_1, y1_0, y1_1, nn1, rfl, _, _, t1_0, t1_1⟩ := open_agg2 Try.underlying23 (by kernel_rfl) (by kernel_rfl) (hval 1 23 v1 rfl rfl) h1
  obtain ⟨x1_0, hx1_0, _, _⟩ := DataW.trod_int Try.underlying3 t1_0
  simp at hx1_0
  subst hx1_0
  obtain ⟨x1_1, hx1_1, _, _⟩ := DataW.trod_int Try.underlying3 t1_1
  simp at hx1_1
  subst hx1_1
  clear hA0 hval0
  refine (fnExactEngNew_walk x0 x1_0 x1_1 W).mono fun e W' ⟨he, bel⟩ => ?_
  subst he
  exact ⟨_, rfl, _, _, _, [], _, [], hW', trodAll_mk1 (shut_bool Try.underlying4 _), (trodAll_cons_mk (Below.trod laidOut (by kernel_rfl) (of_decide_eq_true (by kernel_rfl)) k0 bel lt0) (trodAll_cons_mk (Below.trod laidOut (by kernel_rfl) (of_decide_eq_true (by kernel_rfl)) k1 bel lt1) trodAll_mk0)), rfl, bel.frame _, fun h => by cases h⟩

theorem over : Rows.fnExactEngNewRow.holds Try.pinned (OpenSpec.ofChange Rows.fnExactEngNewSpec) :=
  OpenClaim.holds_of_wide 3 Try.f3 rfl rfl rfl rfl rfl rfl rfl ⟨rfl, rfl, rfl, rfl, rfl⟩ rfl rfl rfl rfl rfl (by kernel_rfl) Try.func3 (by kernel_rfl)
    (of_decide_eq_true (by kernel_rfl)) (by unfold Func.isWrapper; first | (rw [if_pos (by decide +kernel)]; kernel_rfl) | (rw [if_neg (by decide +kernel)]; exact ⟨rfl, rfl⟩))
    (fun os started H enc _ => lifted os started H enc)
end Go.Proofs.Ytgjldmjlbhkgbaa.fnExactEngNew

namespace Go.Proofs.Ytgjldmjlbhkgbaa
/-- The given statement. -/
theorem fnExactEngNew_holds : Rows.FnExactEngNewSaid := fnExactEngNew.over
#print axioms fnExactEngNew_holds
end Go.Proofs.Ytgjldmjlbhkgbaa
