/-
  What spec.DrawCmds draws: a right Geo, and two commands that are right. Condition: at most 2097152 bytes to draw from.
-/
import Derived.Test.YtplieehocceplaaWalkL13Draw
import Derived.Test.YtplieehocceplaaWalkDrawGeo
import Derived.Test.YtplieehocceplaaHeld
import Derived.Deep.Cut
namespace Go.Proofs.Ytplieehocceplaa
open Go.RowKit

theorem But.ofDrew {lo hi : Nat} {w w' : World} (h : But lo hi w.drew w') : But lo hi w w' := ⟨h.os, h.tape, h.output, h.size, h.block⟩
def set2g (w : World) (B : Nat) (v0 v1 : Value) : World := (w.setCell ⟨B, 0, none⟩ v0).setCell ⟨B, 1, none⟩ v1
theorem set2g_but (w : World) (B : Nat) (v0 v1 : Value) : But B (B + 1) w (set2g w B v0 v1) := by
  unfold set2g
  exact (But.setCell (by omega) (by omega) _).trans (But.setCell (by omega) (by omega) _)

set_option maxRecDepth 20000 in
set_option maxHeartbeats 4000000 in
theorem drawCmds_any (w : World) (a : Option Addr) (lb cb : Nat) (zs : List Int) (hz : zs.length = lb) (hr : Reads .u8 w a zs) (hby : ∀ n ∈ zs, 0 ≤ n ∧ n ≤ 255) (hlb : lb ≤ 2097152) :
    Calls Try.prog 18 #[.slice a lb cb] w fun e w' => ∃ (gn gs o d b k : Int) (a' : Option Addr) (c' : Nat) (ds : List Int) (o2 d2 b2 k2 : Int) (a2 : Option Addr) (c2 : Nat) (ds2 : List Int), e = .returned (.tuple #[.agg #[.int .i64 gn, .int .i64 gs], .agg #[.int .i64 o, .int .i64 d, .int .i64 b, .int .i64 k, .slice a' ds.length c'], .agg #[.int .i64 o2, .int .i64 d2, .int .i64 b2, .int .i64 k2, .slice a2 ds2.length c2]]) ∧ geoB gn gs = true ∧ codeC gn gs o d b k ds = 0 ∧ codeC gn gs o2 d2 b2 k2 ds2 = 0 ∧ ds.length ≤ 6 ∧ ds2.length ≤ 6 ∧ Reads .i64 w' a' ds ∧ Reads .i64 w' a2 ds2 ∧ Below w.heap.size w w' := by
  have hA : Below w.heap.size w (((w.alloc (.cells #[.int .i64 0, .int .i64 0] 35)).alloc (.cells #[.int .i64 0, .int .i64 0, .int .i64 0, .int .i64 0, .slice none 0 0] 26)).alloc (.cells #[.int .i64 0, .int .i64 0, .int .i64 0, .int .i64 0, .slice none 0 0] 26)) := ((new_below w _).alloc (by simp) _).alloc (by simp; omega) _
  have P0 := ((Box.new w 35 #[.int .i64 0, .int .i64 0]).alloc (.cells #[.int .i64 0, .int .i64 0, .int .i64 0, .int .i64 0, .slice none 0 0] 26)).alloc (.cells #[.int .i64 0, .int .i64 0, .int .i64 0, .int .i64 0, .slice none 0 0] 26)
  have Q0 : Box (((w.alloc (.cells #[.int .i64 0, .int .i64 0] 35)).alloc (.cells #[.int .i64 0, .int .i64 0, .int .i64 0, .int .i64 0, .slice none 0 0] 26)).alloc (.cells #[.int .i64 0, .int .i64 0, .int .i64 0, .int .i64 0, .slice none 0 0] 26)) (w.heap.size + 1) 26 #[.int .i64 0, .int .i64 0, .int .i64 0, .int .i64 0, .slice none 0 0] := by
    have := (Box.new (w.alloc (.cells #[.int .i64 0, .int .i64 0] 35)) 26 #[.int .i64 0, .int .i64 0, .int .i64 0, .int .i64 0, .slice none 0 0]).alloc (.cells #[.int .i64 0, .int .i64 0, .int .i64 0, .int .i64 0, .slice none 0 0] 26)
    rw [show (w.alloc (.cells #[.int .i64 0, .int .i64 0] 35)).heap.size = w.heap.size + 1 by simp] at this
    exact this
  have R0 : Box (((w.alloc (.cells #[.int .i64 0, .int .i64 0] 35)).alloc (.cells #[.int .i64 0, .int .i64 0, .int .i64 0, .int .i64 0, .slice none 0 0] 26)).alloc (.cells #[.int .i64 0, .int .i64 0, .int .i64 0, .int .i64 0, .slice none 0 0] 26)) (w.heap.size + 1 + 1) 26 #[.int .i64 0, .int .i64 0, .int .i64 0, .int .i64 0, .slice none 0 0] := by
    have := Box.new ((w.alloc (.cells #[.int .i64 0, .int .i64 0] 35)).alloc (.cells #[.int .i64 0, .int .i64 0, .int .i64 0, .int .i64 0, .slice none 0 0] 26)) 26 #[.int .i64 0, .int .i64 0, .int .i64 0, .int .i64 0, .slice none 0 0]
    rw [show ((w.alloc (.cells #[.int .i64 0, .int .i64 0] 35)).alloc (.cells #[.int .i64 0, .int .i64 0, .int .i64 0, .int .i64 0, .slice none 0 0] 26)).heap.size = w.heap.size + 1 + 1 by simp] at this
    exact this
  have hr0 := hr.below hA
  have z0 : w.heap.size + 3 ≤ (((w.alloc (.cells #[.int .i64 0, .int .i64 0] 35)).alloc (.cells #[.int .i64 0, .int .i64 0, .int .i64 0, .int .i64 0, .slice none 0 0] 26)).alloc (.cells #[.int .i64 0, .int .i64 0, .int .i64 0, .int .i64 0, .slice none 0 0] 26)).heap.size := by simp
  go_enter Try.func18, Try.ntmps18
  go_wp2_with fail
  generalize (((w.alloc (.cells #[.int .i64 0, .int .i64 0] 35)).alloc (.cells #[.int .i64 0, .int .i64 0, .int .i64 0, .int .i64 0, .slice none 0 0] 26)).alloc (.cells #[.int .i64 0, .int .i64 0, .int .i64 0, .int .i64 0, .slice none 0 0] 26)) = W at hA P0 Q0 R0 z0 hr0 ⊢
  generalize hQB : w.heap.size + 1 = QB at Q0 R0 ⊢
  generalize hRB : QB + 1 = RB at R0 ⊢
  have hq : w.heap.size < QB ∧ QB < RB ∧ RB < W.heap.size := by omega
  clear hQB hRB
  obtain ⟨hq1, hq2, hq3⟩ := hq
  refine (l1New_any _ _ _ _ zs hz hr0 hlb).mono ?_
  rintro e w1 ⟨rfl, hc1, hb1⟩
  have D1 : Draws w1 W.heap.size a lb cb zs := ⟨hc1, hz, hr0.below hb1, hby, hlb, hr0.ahead hz⟩
  have P1 := P0.below hb1 (by omega)
  have Q1 := Q0.below hb1 (by omega)
  have R1 := R0.below hb1 (by omega)
  have B1 := hA.trans (hb1.mono hA.size)
  have z1 := D1.lt
  clear hc1 P0 Q0 R0 hr0 hb1 hA
  obtain ⟨g, hg⟩ : ∃ g, g = W.heap.size := ⟨_, rfl⟩
  rw [← hg] at D1 z1 hq3
  simp only [← hg]
  have hg2 : RB < g := hq3
  clear hg z0 hq3
  go_wp2_with fail
  refine (l3Geo_any D1).mono ?_
  rintro e w2 ⟨gn, gs, rfl, hgeo, D2, b2⟩
  have P2 := P1.kept (b2.block _ (by omega) (by omega))
  have Q2 := Q1.kept (b2.block _ (by omega) (by omega))
  have R2 := R1.kept (b2.block _ (by omega) (by omega))
  have B2 := B1.trans (b2.below (B := w.heap.size) (by omega) (by omega))
  have z2 := b2.size
  clear P1 Q1 R1 B1 D1 b2
  have G3 := Box.new w2 35 #[.int .i64 gn, .int .i64 gs]
  have P3 := P2.alloc (.cells #[.int .i64 gn, .int .i64 gs] 35)
  have Q3 := Q2.alloc (.cells #[.int .i64 gn, .int .i64 gs] 35)
  have R3 := R2.alloc (.cells #[.int .i64 gn, .int .i64 gs] 35)
  have D3 := D2.alloc (.cells #[.int .i64 gn, .int .i64 gs] 35)
  have B3 := B2.alloc B2.size (.cells #[.int .i64 gn, .int .i64 gs] 35)
  have z3 : w2.heap.size < (w2.alloc (.cells #[.int .i64 gn, .int .i64 gs] 35)).heap.size := G3.lt
  clear P2 Q2 R2 D2 B2
  obtain ⟨m0, m1⟩ := G3.cells2
  go_wp2_with fail
  generalize w2.alloc (.cells #[.int .i64 gn, .int .i64 gs] 35) = w3 at G3 P3 Q3 R3 D3 B3 z3 m0 m1 ⊢
  generalize hGB : w2.heap.size = GB at G3 z3 z2 m0 m1 ⊢
  have hGB1 : g < GB := by omega
  clear hGB
  refine (l13Draw_any D3 hgeo).mono ?_
  rintro e w4 ⟨o, d, b, k, a1, c1, ds, rfl, hc1, hl1, O4, D4, b4⟩
  clear m0 m1
  have P4 := P3.kept (b4.block _ (by omega) (by omega))
  have Q4 := Q3.kept (b4.block _ (by omega) (by omega))
  have R4 := R3.kept (b4.block _ (by omega) (by omega))
  have G4 := G3.kept (b4.block _ (by omega) (by omega))
  have B4 := B3.trans (b4.below (B := w.heap.size) (by omega) (by omega))
  have z4 := b4.size
  clear P3 Q3 R3 G3 B3 D3 b4
  have X5 := Box.new w4 26 #[.int .i64 o, .int .i64 d, .int .i64 b, .int .i64 k, .slice a1 ds.length c1]
  have P5 := P4.alloc (.cells #[.int .i64 o, .int .i64 d, .int .i64 b, .int .i64 k, .slice a1 ds.length c1] 26)
  have Q5 := Q4.alloc (.cells #[.int .i64 o, .int .i64 d, .int .i64 b, .int .i64 k, .slice a1 ds.length c1] 26)
  have R5 := R4.alloc (.cells #[.int .i64 o, .int .i64 d, .int .i64 b, .int .i64 k, .slice a1 ds.length c1] 26)
  have G5 := G4.alloc (.cells #[.int .i64 o, .int .i64 d, .int .i64 b, .int .i64 k, .slice a1 ds.length c1] 26)
  have D5 := D4.alloc (.cells #[.int .i64 o, .int .i64 d, .int .i64 b, .int .i64 k, .slice a1 ds.length c1] 26)
  have B5 := B4.alloc B4.size (.cells #[.int .i64 o, .int .i64 d, .int .i64 b, .int .i64 k, .slice a1 ds.length c1] 26)
  have z5 : w4.heap.size < (w4.alloc (.cells #[.int .i64 o, .int .i64 d, .int .i64 b, .int .i64 k, .slice a1 ds.length c1] 26)).heap.size := X5.lt
  have O5 := hidden (O4.below (new_below w4 (.cells #[.int .i64 o, .int .i64 d, .int .i64 b, .int .i64 k, .slice a1 ds.length c1] 26)))
  clear P4 Q4 R4 G4 D4 B4 O4
  obtain ⟨m0, m1⟩ := G5.cells2
  obtain ⟨x0, x1, x2, x3, x4⟩ := X5.cells5
  obtain ⟨p0, p1⟩ := P5.cells2
  obtain ⟨q0, q1, q2, q3, q4⟩ := Q5.cells5
  obtain ⟨r0, r1, r2, r3, r4⟩ := R5.cells5
  go_wp2_with fail
  generalize w4.alloc (.cells #[.int .i64 o, .int .i64 d, .int .i64 b, .int .i64 k, .slice a1 ds.length c1] 26) = w5 at X5 G5 P5 Q5 R5 D5 B5 z5 O5 m0 m1 x0 x1 x2 x3 x4 p0 p1 q0 q1 q2 q3 q4 r0 r1 r2 r3 r4 ⊢
  generalize hXB : w4.heap.size = XB at X5 z5 z4 O5 x0 x1 x2 x3 x4 ⊢
  have hXB1 : GB < XB := by omega
  clear hXB
  have nGBw : ¬ GB = w.heap.size := by omega
  have mGBw : ¬ w.heap.size = GB := by omega
  have nGBQB : ¬ GB = QB := by omega
  have mGBQB : ¬ QB = GB := by omega
  have nGBRB : ¬ GB = RB := by omega
  have mGBRB : ¬ RB = GB := by omega
  have nXBw : ¬ XB = w.heap.size := by omega
  have mXBw : ¬ w.heap.size = XB := by omega
  have nXBQB : ¬ XB = QB := by omega
  have mXBQB : ¬ QB = XB := by omega
  have nXBRB : ¬ XB = RB := by omega
  have mXBRB : ¬ RB = XB := by omega
  have nQBw : ¬ QB = w.heap.size := by omega
  have mQBw : ¬ w.heap.size = QB := by omega
  have nRBw : ¬ RB = w.heap.size := by omega
  have mRBw : ¬ w.heap.size = RB := by omega
  have nRBQB : ¬ RB = QB := by omega
  have mRBQB : ¬ QB = RB := by omega
  have nXBGB : ¬ XB = GB := by omega
  have mXBGB : ¬ GB = XB := by omega
  clear p0 p1 q0 q1 q2 q3 q4 r0 r1 r2 r3 r4
  have D5d : Draws w5.drew g a lb cb zs := D5.drew
  have g0 : w5.drew.cell? ⟨GB, 0, none⟩ = some (.int .i64 gn) ∧ w5.drew.cell? ⟨GB, 1, none⟩ = some (.int .i64 gs) ∧ w5.drew.cell? ⟨XB, 0, none⟩ = some (.int .i64 o) ∧ w5.drew.cell? ⟨XB, 1, none⟩ = some (.int .i64 d) ∧ w5.drew.cell? ⟨XB, 2, none⟩ = some (.int .i64 b) ∧ w5.drew.cell? ⟨XB, 3, none⟩ = some (.int .i64 k) ∧ w5.drew.cell? ⟨XB, 4, none⟩ = some (.slice a1 ds.length c1) := ⟨m0, m1, x0, x1, x2, x3, x4⟩
  clear m0 m1 x0 x1 x2 x3 x4
  refine wp_region_held_drew (S := fun w' => w'.cell? ⟨GB, 0, none⟩ = some (.int .i64 gn) ∧ w'.cell? ⟨GB, 1, none⟩ = some (.int .i64 gs) ∧ w'.cell? ⟨XB, 0, none⟩ = some (.int .i64 o) ∧ w'.cell? ⟨XB, 1, none⟩ = some (.int .i64 d) ∧ w'.cell? ⟨XB, 2, none⟩ = some (.int .i64 b) ∧ w'.cell? ⟨XB, 3, none⟩ = some (.int .i64 k) ∧ w'.cell? ⟨XB, 4, none⟩ = some (.slice a1 ds.length c1)) (by kernel_rfl) ?_ (fun hHeld => ?_)
  · exact g0
  refine held_t 0 hHeld ?_
  refine held_t 1 hHeld ?_
  refine held_t 2 hHeld ?_
  refine held_t 3 hHeld ?_
  refine held_one (i := 4) (by kernel_rfl) rfl (by kernel_rfl) (fun K hK => ?_)
  go_simp
  refine (l13Draw_any D5d hgeo).mono ?_
  rintro e w6 ⟨o2, d2, b2, k2, a2, c2, ds2, rfl, hc2, hl2, O6, D6, b6⟩
  have P6 := P5.kept (w' := w6) (b6.block _ (by show _ < w5.heap.size; omega) (by omega))
  have Q6 := Q5.kept (w' := w6) (b6.block _ (by show _ < w5.heap.size; omega) (by omega))
  have R6 := R5.kept (w' := w6) (b6.block _ (by show _ < w5.heap.size; omega) (by omega))
  have G6 := G5.kept (w' := w6) (b6.block _ (by show _ < w5.heap.size; omega) (by omega))
  have X6 := X5.kept (w' := w6) (b6.block _ (by show _ < w5.heap.size; omega) (by omega))
  have B6 := B5.trans ((But.ofDrew b6).below (B := w.heap.size) (by omega) (by omega))
  have z6 : w5.heap.size ≤ w6.heap.size := b6.size
  have O7 := hidden (O5.out.but (But.ofDrew b6) (by first | exact .inl (by omega) | exact .inr (by omega)))
  have U7 : Hid (tIntS.Own w6 w5.heap.size w6.heap.size [.slice a2 ds2.length c2] ds2) := O6
  clear g0 hHeld D5d D5 B5 G5 P5 Q5 R5 X5 D6 b6 O5 O6
  go_wp2_with fail
  refine hK.out _ _ ?_ (fun hHeld => ?_)
  · exact ⟨G6.cell 0, G6.cell 1, X6.cell 0, X6.cell 1, X6.cell 2, X6.cell 3, X6.cell 4⟩
  clear hK K
  obtain ⟨s0, s1⟩ := P6.cells2
  have fz := P6.frozen
  have hb := set2g_but w6 w.heap.size (.int .i64 gn) (.int .i64 gs)
  have Q7 := Q6.kept (hb.block _ (by omega) (by omega))
  have R7 := R6.kept (hb.block _ (by omega) (by omega))
  have G7 := G6.kept (hb.block _ (by omega) (by omega))
  have X7 := X6.kept (hb.block _ (by omega) (by omega))
  have B7 := B6.trans (hb.below (B := w.heap.size) (by omega) (by omega))
  have z7 := hb.size
  have P7 := (P6.set 0 (.int .i64 gn)).set 1 (.int .i64 gs)
  have O8 := hidden (O7.out.but hb (by first | exact .inl (by omega) | exact .inr (by omega)))
  have U8 := hidden (U7.out.but hb (by first | exact .inl (by omega) | exact .inr (by omega)))
  unfold set2g at hb z7 B7 O8 U8 Q7 R7 G7 X7
  have hS7 : (((w6).setCell ⟨w.heap.size, 0, none⟩ (.int .i64 gn)).setCell ⟨w.heap.size, 1, none⟩ (.int .i64 gs)).cell? ⟨GB, 0, none⟩ = some (.int .i64 gn) ∧ (((w6).setCell ⟨w.heap.size, 0, none⟩ (.int .i64 gn)).setCell ⟨w.heap.size, 1, none⟩ (.int .i64 gs)).cell? ⟨GB, 1, none⟩ = some (.int .i64 gs) ∧ (((w6).setCell ⟨w.heap.size, 0, none⟩ (.int .i64 gn)).setCell ⟨w.heap.size, 1, none⟩ (.int .i64 gs)).cell? ⟨XB, 0, none⟩ = some (.int .i64 o) ∧ (((w6).setCell ⟨w.heap.size, 0, none⟩ (.int .i64 gn)).setCell ⟨w.heap.size, 1, none⟩ (.int .i64 gs)).cell? ⟨XB, 1, none⟩ = some (.int .i64 d) ∧ (((w6).setCell ⟨w.heap.size, 0, none⟩ (.int .i64 gn)).setCell ⟨w.heap.size, 1, none⟩ (.int .i64 gs)).cell? ⟨XB, 2, none⟩ = some (.int .i64 b) ∧ (((w6).setCell ⟨w.heap.size, 0, none⟩ (.int .i64 gn)).setCell ⟨w.heap.size, 1, none⟩ (.int .i64 gs)).cell? ⟨XB, 3, none⟩ = some (.int .i64 k) ∧ (((w6).setCell ⟨w.heap.size, 0, none⟩ (.int .i64 gn)).setCell ⟨w.heap.size, 1, none⟩ (.int .i64 gs)).cell? ⟨XB, 4, none⟩ = some (.slice a1 ds.length c1) := ⟨G7.cell 0, G7.cell 1, X7.cell 0, X7.cell 1, X7.cell 2, X7.cell 3, X7.cell 4⟩
  refine held_one (i := 5) (by kernel_rfl) rfl (by kernel_rfl) (fun K hK => ?_)
  clear hHeld
  go_simp
  refine hK.out _ _ ?_ (fun hHeld => ?_)
  · exact hS7
  clear hK K hS7 hb fz s0 s1 Q6 R6 G6 X6 P6 B6 O7 U7
  generalize ((w6).setCell ⟨w.heap.size, 0, none⟩ (.int .i64 gn)).setCell ⟨w.heap.size, 1, none⟩ (.int .i64 gs) = w7 at z7 B7 O8 U8 Q7 R7 G7 X7 P7 ⊢
  obtain ⟨s0, s1, s2, s3, s4⟩ := Q7.cells5
  have fz := Q7.frozen
  have hb := set5_but w7 QB (.int .i64 o) (.int .i64 d) (.int .i64 b) (.int .i64 k) (.slice a1 ds.length c1)
  have P8 := P7.kept (hb.block _ (by omega) (by omega))
  have R8 := R7.kept (hb.block _ (by omega) (by omega))
  have G8 := G7.kept (hb.block _ (by omega) (by omega))
  have X8 := X7.kept (hb.block _ (by omega) (by omega))
  have B8 := B7.trans (hb.below (B := w.heap.size) (by omega) (by omega))
  have z8 := hb.size
  have Q8 := ((((Q7.set 0 (.int .i64 o)).set 1 (.int .i64 d)).set 2 (.int .i64 b)).set 3 (.int .i64 k)).set 4 (.slice a1 ds.length c1)
  have O9 := hidden (O8.out.but hb (by first | exact .inl (by omega) | exact .inr (by omega)))
  have U9 := hidden (U8.out.but hb (by first | exact .inl (by omega) | exact .inr (by omega)))
  unfold set5 at hb z8 B8 O9 U9 P8 R8 G8 X8
  have hS8 : ((((((w7).setCell ⟨QB, 0, none⟩ (.int .i64 o)).setCell ⟨QB, 1, none⟩ (.int .i64 d)).setCell ⟨QB, 2, none⟩ (.int .i64 b)).setCell ⟨QB, 3, none⟩ (.int .i64 k)).setCell ⟨QB, 4, none⟩ (.slice a1 ds.length c1)).cell? ⟨GB, 0, none⟩ = some (.int .i64 gn) ∧ ((((((w7).setCell ⟨QB, 0, none⟩ (.int .i64 o)).setCell ⟨QB, 1, none⟩ (.int .i64 d)).setCell ⟨QB, 2, none⟩ (.int .i64 b)).setCell ⟨QB, 3, none⟩ (.int .i64 k)).setCell ⟨QB, 4, none⟩ (.slice a1 ds.length c1)).cell? ⟨GB, 1, none⟩ = some (.int .i64 gs) ∧ ((((((w7).setCell ⟨QB, 0, none⟩ (.int .i64 o)).setCell ⟨QB, 1, none⟩ (.int .i64 d)).setCell ⟨QB, 2, none⟩ (.int .i64 b)).setCell ⟨QB, 3, none⟩ (.int .i64 k)).setCell ⟨QB, 4, none⟩ (.slice a1 ds.length c1)).cell? ⟨XB, 0, none⟩ = some (.int .i64 o) ∧ ((((((w7).setCell ⟨QB, 0, none⟩ (.int .i64 o)).setCell ⟨QB, 1, none⟩ (.int .i64 d)).setCell ⟨QB, 2, none⟩ (.int .i64 b)).setCell ⟨QB, 3, none⟩ (.int .i64 k)).setCell ⟨QB, 4, none⟩ (.slice a1 ds.length c1)).cell? ⟨XB, 1, none⟩ = some (.int .i64 d) ∧ ((((((w7).setCell ⟨QB, 0, none⟩ (.int .i64 o)).setCell ⟨QB, 1, none⟩ (.int .i64 d)).setCell ⟨QB, 2, none⟩ (.int .i64 b)).setCell ⟨QB, 3, none⟩ (.int .i64 k)).setCell ⟨QB, 4, none⟩ (.slice a1 ds.length c1)).cell? ⟨XB, 2, none⟩ = some (.int .i64 b) ∧ ((((((w7).setCell ⟨QB, 0, none⟩ (.int .i64 o)).setCell ⟨QB, 1, none⟩ (.int .i64 d)).setCell ⟨QB, 2, none⟩ (.int .i64 b)).setCell ⟨QB, 3, none⟩ (.int .i64 k)).setCell ⟨QB, 4, none⟩ (.slice a1 ds.length c1)).cell? ⟨XB, 3, none⟩ = some (.int .i64 k) ∧ ((((((w7).setCell ⟨QB, 0, none⟩ (.int .i64 o)).setCell ⟨QB, 1, none⟩ (.int .i64 d)).setCell ⟨QB, 2, none⟩ (.int .i64 b)).setCell ⟨QB, 3, none⟩ (.int .i64 k)).setCell ⟨QB, 4, none⟩ (.slice a1 ds.length c1)).cell? ⟨XB, 4, none⟩ = some (.slice a1 ds.length c1) := ⟨G8.cell 0, G8.cell 1, X8.cell 0, X8.cell 1, X8.cell 2, X8.cell 3, X8.cell 4⟩
  refine held_one (i := 6) (by kernel_rfl) rfl (by kernel_rfl) (fun K hK => ?_)
  clear hHeld
  go_simp
  refine hK.out _ _ ?_ (fun hHeld => ?_)
  · exact hS8
  clear hK K hS8 hb fz s0 s1 s2 s3 s4 P7 R7 G7 X7 Q7 B7 O8 U8
  generalize (((((w7).setCell ⟨QB, 0, none⟩ (.int .i64 o)).setCell ⟨QB, 1, none⟩ (.int .i64 d)).setCell ⟨QB, 2, none⟩ (.int .i64 b)).setCell ⟨QB, 3, none⟩ (.int .i64 k)).setCell ⟨QB, 4, none⟩ (.slice a1 ds.length c1) = w8 at z8 B8 O9 U9 P8 R8 G8 X8 Q8 ⊢
  obtain ⟨s0, s1, s2, s3, s4⟩ := R8.cells5
  have fz := R8.frozen
  have hb := set5_but w8 RB (.int .i64 o2) (.int .i64 d2) (.int .i64 b2) (.int .i64 k2) (.slice a2 ds2.length c2)
  have P9 := P8.kept (hb.block _ (by omega) (by omega))
  have Q9 := Q8.kept (hb.block _ (by omega) (by omega))
  have G9 := G8.kept (hb.block _ (by omega) (by omega))
  have X9 := X8.kept (hb.block _ (by omega) (by omega))
  have B9 := B8.trans (hb.below (B := w.heap.size) (by omega) (by omega))
  have z9 := hb.size
  have R9 := ((((R8.set 0 (.int .i64 o2)).set 1 (.int .i64 d2)).set 2 (.int .i64 b2)).set 3 (.int .i64 k2)).set 4 (.slice a2 ds2.length c2)
  have O10 := hidden (O9.out.but hb (by first | exact .inl (by omega) | exact .inr (by omega)))
  have U10 := hidden (U9.out.but hb (by first | exact .inl (by omega) | exact .inr (by omega)))
  unfold set5 at hb z9 B9 O10 U10 P9 Q9 G9 X9
  have hS9 : ((((((w8).setCell ⟨RB, 0, none⟩ (.int .i64 o2)).setCell ⟨RB, 1, none⟩ (.int .i64 d2)).setCell ⟨RB, 2, none⟩ (.int .i64 b2)).setCell ⟨RB, 3, none⟩ (.int .i64 k2)).setCell ⟨RB, 4, none⟩ (.slice a2 ds2.length c2)).cell? ⟨GB, 0, none⟩ = some (.int .i64 gn) ∧ ((((((w8).setCell ⟨RB, 0, none⟩ (.int .i64 o2)).setCell ⟨RB, 1, none⟩ (.int .i64 d2)).setCell ⟨RB, 2, none⟩ (.int .i64 b2)).setCell ⟨RB, 3, none⟩ (.int .i64 k2)).setCell ⟨RB, 4, none⟩ (.slice a2 ds2.length c2)).cell? ⟨GB, 1, none⟩ = some (.int .i64 gs) ∧ ((((((w8).setCell ⟨RB, 0, none⟩ (.int .i64 o2)).setCell ⟨RB, 1, none⟩ (.int .i64 d2)).setCell ⟨RB, 2, none⟩ (.int .i64 b2)).setCell ⟨RB, 3, none⟩ (.int .i64 k2)).setCell ⟨RB, 4, none⟩ (.slice a2 ds2.length c2)).cell? ⟨XB, 0, none⟩ = some (.int .i64 o) ∧ ((((((w8).setCell ⟨RB, 0, none⟩ (.int .i64 o2)).setCell ⟨RB, 1, none⟩ (.int .i64 d2)).setCell ⟨RB, 2, none⟩ (.int .i64 b2)).setCell ⟨RB, 3, none⟩ (.int .i64 k2)).setCell ⟨RB, 4, none⟩ (.slice a2 ds2.length c2)).cell? ⟨XB, 1, none⟩ = some (.int .i64 d) ∧ ((((((w8).setCell ⟨RB, 0, none⟩ (.int .i64 o2)).setCell ⟨RB, 1, none⟩ (.int .i64 d2)).setCell ⟨RB, 2, none⟩ (.int .i64 b2)).setCell ⟨RB, 3, none⟩ (.int .i64 k2)).setCell ⟨RB, 4, none⟩ (.slice a2 ds2.length c2)).cell? ⟨XB, 2, none⟩ = some (.int .i64 b) ∧ ((((((w8).setCell ⟨RB, 0, none⟩ (.int .i64 o2)).setCell ⟨RB, 1, none⟩ (.int .i64 d2)).setCell ⟨RB, 2, none⟩ (.int .i64 b2)).setCell ⟨RB, 3, none⟩ (.int .i64 k2)).setCell ⟨RB, 4, none⟩ (.slice a2 ds2.length c2)).cell? ⟨XB, 3, none⟩ = some (.int .i64 k) ∧ ((((((w8).setCell ⟨RB, 0, none⟩ (.int .i64 o2)).setCell ⟨RB, 1, none⟩ (.int .i64 d2)).setCell ⟨RB, 2, none⟩ (.int .i64 b2)).setCell ⟨RB, 3, none⟩ (.int .i64 k2)).setCell ⟨RB, 4, none⟩ (.slice a2 ds2.length c2)).cell? ⟨XB, 4, none⟩ = some (.slice a1 ds.length c1) := ⟨G9.cell 0, G9.cell 1, X9.cell 0, X9.cell 1, X9.cell 2, X9.cell 3, X9.cell 4⟩
  refine held_one (i := 7) (by kernel_rfl) rfl (by kernel_rfl) (fun K hK => ?_)
  clear hHeld
  go_simp
  refine hK.out _ _ ?_ (fun hHeld => ?_)
  · exact hS9
  clear hK K hS9 hb fz s0 s1 s2 s3 s4 P8 Q8 G8 X8 R8 B8 O9 U9
  generalize (((((w8).setCell ⟨RB, 0, none⟩ (.int .i64 o2)).setCell ⟨RB, 1, none⟩ (.int .i64 d2)).setCell ⟨RB, 2, none⟩ (.int .i64 b2)).setCell ⟨RB, 3, none⟩ (.int .i64 k2)).setCell ⟨RB, 4, none⟩ (.slice a2 ds2.length c2) = w9 at z9 B9 O10 U10 P9 Q9 G9 X9 R9 ⊢
  clear hHeld
  refine wpAnyH_done (by kernel_rfl) ?_ _
  obtain ⟨p0, p1⟩ := P9.cells2
  obtain ⟨q0, q1, q2, q3, q4⟩ := Q9.cells5
  obtain ⟨r0, r1, r2, r3, r4⟩ := R9.cells5
  have R1 := hidden (ints_rd O10.out.rd).1
  have R2 := hidden (ints_rd U10.out.rd).1
  have HC := hidden (And.intro hgeo (And.intro hc1 hc2))
  clear P9 Q9 R9 G9 X9 O10 U10 hgeo hc1 hc2
  go_wp2
  refine bodyPost_ret (v := .tuple #[.agg #[.int .i64 gn, .int .i64 gs], .agg #[.int .i64 o, .int .i64 d, .int .i64 b, .int .i64 k, .slice a1 ds.length c1], .agg #[.int .i64 o2, .int .i64 d2, .int .i64 b2, .int .i64 k2, .slice a2 ds2.length c2]]) (by simp [results, Try.results18, go_sem, p0, p1, q0, q1, q2, q3, q4, r0, r1, r2, r3, r4]) rfl ?_
  exact ⟨gn, gs, o, d, b, k, a1, c1, ds, o2, d2, b2, k2, a2, c2, ds2, rfl, HC.out.1, HC.out.2.1, HC.out.2.2, hl1, hl2, R1.out, R2.out, B9⟩

end Go.Proofs.Ytplieehocceplaa
