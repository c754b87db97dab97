/-
  The law of models holds: whatever bytes it draws from, it returns true. No condition.
-/
import Derived.Test.YtgjomldcnjjpaaaWalkL13Draw
import Derived.Test.YtgjomldcnjjpaaaWalkDrawGeo
import Derived.Test.YtgjomldcnjjpaaaHeld
import Derived.Deep.Cut
import Derived.Test.YtgjomldcnjjpaaaDone14
import Derived.Test.YtgjomldcnjjpaaaWalkGeoSpec
import Derived.Test.YtgjomldcnjjpaaaInfo
import Derived.Test.YtgjomldcnjjpaaaWalkCur
import Derived.Test.YtgjomldcnjjpaaaKit
import Derived.Test.YtgjomldcnjjpaaaRows
import Derived.Test.YtgjomldcnjjpaaaWalkInts
import Derived.Test.YtgjomldcnjjpaaaDoCmdsV14
import Derived.Test.YtgjomldcnjjpaaaComm14
import Derived.Test.YtgjomldcnjjpaaaSameAns14
import Derived.Test.YtgjomldcnjjpaaaWalkDrawDos
import Derived.Deep.DeepCutAuto
import Derived.WalkKit
import Derived.ProofKit
import Derived.OpenShut
import Derived.ShutString
import Derived.ChangeOld
import Derived.Below

/-
  What spec.DrawCmds draws: a right Geo, and two commands that are right. Condition: at most 2097152 bytes to draw from.
-/
namespace Go.Proofs.Ytgjomldcnjjpaaa
open Go.RowKit

theorem But.ofDrew {lo hi : Nat} {w w' : World} (h : But lo hi w.drew w') : But lo hi w w' := ⟨h.os, h.tape, h.output, h.size, h.block⟩
def set2g (w : World) (B : Nat) (v0 v1 : Value) : World := (w.setCell ⟨B, 0, none⟩ v0).setCell ⟨B, 1, none⟩ v1
theorem set2g_but (w : World) (B : Nat) (v0 v1 : Value) : But B (B + 1) w (set2g w B v0 v1) := by
  unfold set2g
  exact (But.setCell (by omega) (by omega) _).trans (But.setCell (by omega) (by omega) _)

set_option maxRecDepth 20000 in
set_option maxHeartbeats 4000000 in
theorem drawCmds_v (w : World) (a : Option Addr) (lb cb : Nat) (zs : List Int) (hz : zs.length = lb) (hr : Reads .u8 w a zs) (hby : ∀ n ∈ zs, 0 ≤ n ∧ n ≤ 255) (hlb : lb ≤ 2097152) :
    Calls Try.prog 13 #[.slice a lb cb] w fun e w' => ∃ (gn gs o d b k : Int) (a' : Option Addr) (c' : Nat) (ds : List Int) (o2 d2 b2 k2 : Int) (a2 : Option Addr) (c2 : Nat) (ds2 : List Int), e = .returned (.tuple #[.agg #[.int .i64 gn, .int .i64 gs], .agg #[.int .i64 o, .int .i64 d, .int .i64 b, .int .i64 k, .slice a' ds.length c'], .agg #[.int .i64 o2, .int .i64 d2, .int .i64 b2, .int .i64 k2, .slice a2 ds2.length c2]]) ∧ geoB gn gs = true ∧ codeC gn gs o d b k ds = 0 ∧ codeC gn gs o2 d2 b2 k2 ds2 = 0 ∧ ds.length ≤ 6 ∧ ds2.length ≤ 6 ∧ tIntS.Rd w' [.slice a' ds.length c'] ds ∧ tIntS.Rd w' [.slice a2 ds2.length c2] ds2 ∧ Below w.heap.size w w' := by
  have hA : Below w.heap.size w (((w.alloc (.cells #[.int .i64 0, .int .i64 0] 25)).alloc (.cells #[.int .i64 0, .int .i64 0, .int .i64 0, .int .i64 0, .slice none 0 0] 37)).alloc (.cells #[.int .i64 0, .int .i64 0, .int .i64 0, .int .i64 0, .slice none 0 0] 37)) := ((new_below w _).alloc (by simp) _).alloc (by simp; omega) _
  have P0 := ((Box.new w 25 #[.int .i64 0, .int .i64 0]).alloc (.cells #[.int .i64 0, .int .i64 0, .int .i64 0, .int .i64 0, .slice none 0 0] 37)).alloc (.cells #[.int .i64 0, .int .i64 0, .int .i64 0, .int .i64 0, .slice none 0 0] 37)
  have Q0 : Box (((w.alloc (.cells #[.int .i64 0, .int .i64 0] 25)).alloc (.cells #[.int .i64 0, .int .i64 0, .int .i64 0, .int .i64 0, .slice none 0 0] 37)).alloc (.cells #[.int .i64 0, .int .i64 0, .int .i64 0, .int .i64 0, .slice none 0 0] 37)) (w.heap.size + 1) 37 #[.int .i64 0, .int .i64 0, .int .i64 0, .int .i64 0, .slice none 0 0] := by
    have := (Box.new (w.alloc (.cells #[.int .i64 0, .int .i64 0] 25)) 37 #[.int .i64 0, .int .i64 0, .int .i64 0, .int .i64 0, .slice none 0 0]).alloc (.cells #[.int .i64 0, .int .i64 0, .int .i64 0, .int .i64 0, .slice none 0 0] 37)
    rw [show (w.alloc (.cells #[.int .i64 0, .int .i64 0] 25)).heap.size = w.heap.size + 1 by simp] at this
    exact this
  have R0 : Box (((w.alloc (.cells #[.int .i64 0, .int .i64 0] 25)).alloc (.cells #[.int .i64 0, .int .i64 0, .int .i64 0, .int .i64 0, .slice none 0 0] 37)).alloc (.cells #[.int .i64 0, .int .i64 0, .int .i64 0, .int .i64 0, .slice none 0 0] 37)) (w.heap.size + 1 + 1) 37 #[.int .i64 0, .int .i64 0, .int .i64 0, .int .i64 0, .slice none 0 0] := by
    have := Box.new ((w.alloc (.cells #[.int .i64 0, .int .i64 0] 25)).alloc (.cells #[.int .i64 0, .int .i64 0, .int .i64 0, .int .i64 0, .slice none 0 0] 37)) 37 #[.int .i64 0, .int .i64 0, .int .i64 0, .int .i64 0, .slice none 0 0]
    rw [show ((w.alloc (.cells #[.int .i64 0, .int .i64 0] 25)).alloc (.cells #[.int .i64 0, .int .i64 0, .int .i64 0, .int .i64 0, .slice none 0 0] 37)).heap.size = w.heap.size + 1 + 1 by simp] at this
    exact this
  have hr0 := hr.below hA
  have z0 : w.heap.size + 3 ≤ (((w.alloc (.cells #[.int .i64 0, .int .i64 0] 25)).alloc (.cells #[.int .i64 0, .int .i64 0, .int .i64 0, .int .i64 0, .slice none 0 0] 37)).alloc (.cells #[.int .i64 0, .int .i64 0, .int .i64 0, .int .i64 0, .slice none 0 0] 37)).heap.size := by simp
  go_enter Try.func13, Try.ntmps13
  go_wp2_with fail
  generalize (((w.alloc (.cells #[.int .i64 0, .int .i64 0] 25)).alloc (.cells #[.int .i64 0, .int .i64 0, .int .i64 0, .int .i64 0, .slice none 0 0] 37)).alloc (.cells #[.int .i64 0, .int .i64 0, .int .i64 0, .int .i64 0, .slice none 0 0] 37)) = W at hA P0 Q0 R0 z0 hr0 ⊢
  generalize hQB : w.heap.size + 1 = QB at Q0 R0 ⊢
  generalize hRB : QB + 1 = RB at R0 ⊢
  have hq : w.heap.size < QB ∧ QB < RB ∧ RB < W.heap.size := by omega
  clear hQB hRB
  obtain ⟨hq1, hq2, hq3⟩ := hq
  refine (l1New_any _ _ _ _ zs hz hr0 hlb).mono ?_
  rintro e w1 ⟨rfl, hc1, hb1⟩
  have D1 : Draws w1 W.heap.size a lb cb zs := ⟨hc1, hz, hr0.below hb1, hby, hlb, hr0.ahead hz⟩
  have P1 := P0.below hb1 (by omega)
  have Q1 := Q0.below hb1 (by omega)
  have R1 := R0.below hb1 (by omega)
  have B1 := hA.trans (hb1.mono hA.size)
  have z1 := D1.lt
  clear hc1 P0 Q0 R0 hr0 hb1 hA
  obtain ⟨g, hg⟩ : ∃ g, g = W.heap.size := ⟨_, rfl⟩
  rw [← hg] at D1 z1 hq3
  simp only [← hg]
  have hg2 : RB < g := hq3
  clear hg z0 hq3
  go_wp2_with fail
  refine (l3Geo_any D1).mono ?_
  rintro e w2 ⟨gn, gs, rfl, hgeo, D2, b2⟩
  have P2 := P1.kept (b2.block _ (by omega) (by omega))
  have Q2 := Q1.kept (b2.block _ (by omega) (by omega))
  have R2 := R1.kept (b2.block _ (by omega) (by omega))
  have B2 := B1.trans (b2.below (B := w.heap.size) (by omega) (by omega))
  have z2 := b2.size
  clear P1 Q1 R1 B1 D1 b2
  have G3 := Box.new w2 25 #[.int .i64 gn, .int .i64 gs]
  have P3 := P2.alloc (.cells #[.int .i64 gn, .int .i64 gs] 25)
  have Q3 := Q2.alloc (.cells #[.int .i64 gn, .int .i64 gs] 25)
  have R3 := R2.alloc (.cells #[.int .i64 gn, .int .i64 gs] 25)
  have D3 := D2.alloc (.cells #[.int .i64 gn, .int .i64 gs] 25)
  have B3 := B2.alloc B2.size (.cells #[.int .i64 gn, .int .i64 gs] 25)
  have z3 : w2.heap.size < (w2.alloc (.cells #[.int .i64 gn, .int .i64 gs] 25)).heap.size := G3.lt
  clear P2 Q2 R2 D2 B2
  obtain ⟨m0, m1⟩ := G3.cells2
  go_wp2_with fail
  generalize w2.alloc (.cells #[.int .i64 gn, .int .i64 gs] 25) = w3 at G3 P3 Q3 R3 D3 B3 z3 m0 m1 ⊢
  generalize hGB : w2.heap.size = GB at G3 z3 z2 m0 m1 ⊢
  have hGB1 : g < GB := by omega
  clear hGB
  refine (l13Draw_any D3 hgeo).mono ?_
  rintro e w4 ⟨o, d, b, k, a1, c1, ds, rfl, hc1, hl1, O4, D4, b4⟩
  clear m0 m1
  have P4 := P3.kept (b4.block _ (by omega) (by omega))
  have Q4 := Q3.kept (b4.block _ (by omega) (by omega))
  have R4 := R3.kept (b4.block _ (by omega) (by omega))
  have G4 := G3.kept (b4.block _ (by omega) (by omega))
  have B4 := B3.trans (b4.below (B := w.heap.size) (by omega) (by omega))
  have z4 := b4.size
  clear P3 Q3 R3 G3 B3 D3 b4
  have X5 := Box.new w4 37 #[.int .i64 o, .int .i64 d, .int .i64 b, .int .i64 k, .slice a1 ds.length c1]
  have P5 := P4.alloc (.cells #[.int .i64 o, .int .i64 d, .int .i64 b, .int .i64 k, .slice a1 ds.length c1] 37)
  have Q5 := Q4.alloc (.cells #[.int .i64 o, .int .i64 d, .int .i64 b, .int .i64 k, .slice a1 ds.length c1] 37)
  have R5 := R4.alloc (.cells #[.int .i64 o, .int .i64 d, .int .i64 b, .int .i64 k, .slice a1 ds.length c1] 37)
  have G5 := G4.alloc (.cells #[.int .i64 o, .int .i64 d, .int .i64 b, .int .i64 k, .slice a1 ds.length c1] 37)
  have D5 := D4.alloc (.cells #[.int .i64 o, .int .i64 d, .int .i64 b, .int .i64 k, .slice a1 ds.length c1] 37)
  have B5 := B4.alloc B4.size (.cells #[.int .i64 o, .int .i64 d, .int .i64 b, .int .i64 k, .slice a1 ds.length c1] 37)
  have z5 : w4.heap.size < (w4.alloc (.cells #[.int .i64 o, .int .i64 d, .int .i64 b, .int .i64 k, .slice a1 ds.length c1] 37)).heap.size := X5.lt
  have O5 := hidden (O4.below (new_below w4 (.cells #[.int .i64 o, .int .i64 d, .int .i64 b, .int .i64 k, .slice a1 ds.length c1] 37)))
  clear P4 Q4 R4 G4 D4 B4 O4
  obtain ⟨m0, m1⟩ := G5.cells2
  obtain ⟨x0, x1, x2, x3, x4⟩ := X5.cells5
  obtain ⟨p0, p1⟩ := P5.cells2
  obtain ⟨q0, q1, q2, q3, q4⟩ := Q5.cells5
  obtain ⟨r0, r1, r2, r3, r4⟩ := R5.cells5
  go_wp2_with fail
  generalize w4.alloc (.cells #[.int .i64 o, .int .i64 d, .int .i64 b, .int .i64 k, .slice a1 ds.length c1] 37) = w5 at X5 G5 P5 Q5 R5 D5 B5 z5 O5 m0 m1 x0 x1 x2 x3 x4 p0 p1 q0 q1 q2 q3 q4 r0 r1 r2 r3 r4 ⊢
  generalize hXB : w4.heap.size = XB at X5 z5 z4 O5 x0 x1 x2 x3 x4 ⊢
  have hXB1 : GB < XB := by omega
  clear hXB
  have nGBw : ¬ GB = w.heap.size := by omega
  have mGBw : ¬ w.heap.size = GB := by omega
  have nGBQB : ¬ GB = QB := by omega
  have mGBQB : ¬ QB = GB := by omega
  have nGBRB : ¬ GB = RB := by omega
  have mGBRB : ¬ RB = GB := by omega
  have nXBw : ¬ XB = w.heap.size := by omega
  have mXBw : ¬ w.heap.size = XB := by omega
  have nXBQB : ¬ XB = QB := by omega
  have mXBQB : ¬ QB = XB := by omega
  have nXBRB : ¬ XB = RB := by omega
  have mXBRB : ¬ RB = XB := by omega
  have nQBw : ¬ QB = w.heap.size := by omega
  have mQBw : ¬ w.heap.size = QB := by omega
  have nRBw : ¬ RB = w.heap.size := by omega
  have mRBw : ¬ w.heap.size = RB := by omega
  have nRBQB : ¬ RB = QB := by omega
  have mRBQB : ¬ QB = RB := by omega
  have nXBGB : ¬ XB = GB := by omega
  have mXBGB : ¬ GB = XB := by omega
  clear p0 p1 q0 q1 q2 q3 q4 r0 r1 r2 r3 r4
  have D5d : Draws w5.drew g a lb cb zs := D5.drew
  have g0 : w5.drew.cell? ⟨GB, 0, none⟩ = some (.int .i64 gn) ∧ w5.drew.cell? ⟨GB, 1, none⟩ = some (.int .i64 gs) ∧ w5.drew.cell? ⟨XB, 0, none⟩ = some (.int .i64 o) ∧ w5.drew.cell? ⟨XB, 1, none⟩ = some (.int .i64 d) ∧ w5.drew.cell? ⟨XB, 2, none⟩ = some (.int .i64 b) ∧ w5.drew.cell? ⟨XB, 3, none⟩ = some (.int .i64 k) ∧ w5.drew.cell? ⟨XB, 4, none⟩ = some (.slice a1 ds.length c1) := ⟨m0, m1, x0, x1, x2, x3, x4⟩
  clear m0 m1 x0 x1 x2 x3 x4
  refine wp_region_held_drew (S := fun w' => w'.cell? ⟨GB, 0, none⟩ = some (.int .i64 gn) ∧ w'.cell? ⟨GB, 1, none⟩ = some (.int .i64 gs) ∧ w'.cell? ⟨XB, 0, none⟩ = some (.int .i64 o) ∧ w'.cell? ⟨XB, 1, none⟩ = some (.int .i64 d) ∧ w'.cell? ⟨XB, 2, none⟩ = some (.int .i64 b) ∧ w'.cell? ⟨XB, 3, none⟩ = some (.int .i64 k) ∧ w'.cell? ⟨XB, 4, none⟩ = some (.slice a1 ds.length c1)) (by kernel_rfl) ?_ (fun hHeld => ?_)
  · exact g0
  refine held_t 0 hHeld ?_
  refine held_t 1 hHeld ?_
  refine held_t 2 hHeld ?_
  refine held_t 3 hHeld ?_
  refine held_one (i := 4) (by kernel_rfl) rfl (by kernel_rfl) (fun K hK => ?_)
  go_simp
  refine (l13Draw_any D5d hgeo).mono ?_
  rintro e w6 ⟨o2, d2, b2, k2, a2, c2, ds2, rfl, hc2, hl2, O6, D6, b6⟩
  have P6 := P5.kept (w' := w6) (b6.block _ (by show _ < w5.heap.size; omega) (by omega))
  have Q6 := Q5.kept (w' := w6) (b6.block _ (by show _ < w5.heap.size; omega) (by omega))
  have R6 := R5.kept (w' := w6) (b6.block _ (by show _ < w5.heap.size; omega) (by omega))
  have G6 := G5.kept (w' := w6) (b6.block _ (by show _ < w5.heap.size; omega) (by omega))
  have X6 := X5.kept (w' := w6) (b6.block _ (by show _ < w5.heap.size; omega) (by omega))
  have B6 := B5.trans ((But.ofDrew b6).below (B := w.heap.size) (by omega) (by omega))
  have z6 : w5.heap.size ≤ w6.heap.size := b6.size
  have O7 := hidden (O5.out.but (But.ofDrew b6) (by first | exact .inl (by omega) | exact .inr (by omega)))
  have U7 : Hid (tIntS.Own w6 w5.heap.size w6.heap.size [.slice a2 ds2.length c2] ds2) := O6
  clear g0 hHeld D5d D5 B5 G5 P5 Q5 R5 X5 D6 b6 O5 O6
  go_wp2_with fail
  refine hK.out _ _ ?_ (fun hHeld => ?_)
  · exact ⟨G6.cell 0, G6.cell 1, X6.cell 0, X6.cell 1, X6.cell 2, X6.cell 3, X6.cell 4⟩
  clear hK K
  obtain ⟨s0, s1⟩ := P6.cells2
  have fz := P6.frozen
  have hb := set2g_but w6 w.heap.size (.int .i64 gn) (.int .i64 gs)
  have Q7 := Q6.kept (hb.block _ (by omega) (by omega))
  have R7 := R6.kept (hb.block _ (by omega) (by omega))
  have G7 := G6.kept (hb.block _ (by omega) (by omega))
  have X7 := X6.kept (hb.block _ (by omega) (by omega))
  have B7 := B6.trans (hb.below (B := w.heap.size) (by omega) (by omega))
  have z7 := hb.size
  have P7 := (P6.set 0 (.int .i64 gn)).set 1 (.int .i64 gs)
  have O8 := hidden (O7.out.but hb (by first | exact .inl (by omega) | exact .inr (by omega)))
  have U8 := hidden (U7.out.but hb (by first | exact .inl (by omega) | exact .inr (by omega)))
  unfold set2g at hb z7 B7 O8 U8 Q7 R7 G7 X7
  have hS7 : (((w6).setCell ⟨w.heap.size, 0, none⟩ (.int .i64 gn)).setCell ⟨w.heap.size, 1, none⟩ (.int .i64 gs)).cell? ⟨GB, 0, none⟩ = some (.int .i64 gn) ∧ (((w6).setCell ⟨w.heap.size, 0, none⟩ (.int .i64 gn)).setCell ⟨w.heap.size, 1, none⟩ (.int .i64 gs)).cell? ⟨GB, 1, none⟩ = some (.int .i64 gs) ∧ (((w6).setCell ⟨w.heap.size, 0, none⟩ (.int .i64 gn)).setCell ⟨w.heap.size, 1, none⟩ (.int .i64 gs)).cell? ⟨XB, 0, none⟩ = some (.int .i64 o) ∧ (((w6).setCell ⟨w.heap.size, 0, none⟩ (.int .i64 gn)).setCell ⟨w.heap.size, 1, none⟩ (.int .i64 gs)).cell? ⟨XB, 1, none⟩ = some (.int .i64 d) ∧ (((w6).setCell ⟨w.heap.size, 0, none⟩ (.int .i64 gn)).setCell ⟨w.heap.size, 1, none⟩ (.int .i64 gs)).cell? ⟨XB, 2, none⟩ = some (.int .i64 b) ∧ (((w6).setCell ⟨w.heap.size, 0, none⟩ (.int .i64 gn)).setCell ⟨w.heap.size, 1, none⟩ (.int .i64 gs)).cell? ⟨XB, 3, none⟩ = some (.int .i64 k) ∧ (((w6).setCell ⟨w.heap.size, 0, none⟩ (.int .i64 gn)).setCell ⟨w.heap.size, 1, none⟩ (.int .i64 gs)).cell? ⟨XB, 4, none⟩ = some (.slice a1 ds.length c1) := ⟨G7.cell 0, G7.cell 1, X7.cell 0, X7.cell 1, X7.cell 2, X7.cell 3, X7.cell 4⟩
  refine held_one (i := 5) (by kernel_rfl) rfl (by kernel_rfl) (fun K hK => ?_)
  clear hHeld
  go_simp
  refine hK.out _ _ ?_ (fun hHeld => ?_)
  · exact hS7
  clear hK K hS7 hb fz s0 s1 Q6 R6 G6 X6 P6 B6 O7 U7
  generalize ((w6).setCell ⟨w.heap.size, 0, none⟩ (.int .i64 gn)).setCell ⟨w.heap.size, 1, none⟩ (.int .i64 gs) = w7 at z7 B7 O8 U8 Q7 R7 G7 X7 P7 ⊢
  obtain ⟨s0, s1, s2, s3, s4⟩ := Q7.cells5
  have fz := Q7.frozen
  have hb := set5_but w7 QB (.int .i64 o) (.int .i64 d) (.int .i64 b) (.int .i64 k) (.slice a1 ds.length c1)
  have P8 := P7.kept (hb.block _ (by omega) (by omega))
  have R8 := R7.kept (hb.block _ (by omega) (by omega))
  have G8 := G7.kept (hb.block _ (by omega) (by omega))
  have X8 := X7.kept (hb.block _ (by omega) (by omega))
  have B8 := B7.trans (hb.below (B := w.heap.size) (by omega) (by omega))
  have z8 := hb.size
  have Q8 := ((((Q7.set 0 (.int .i64 o)).set 1 (.int .i64 d)).set 2 (.int .i64 b)).set 3 (.int .i64 k)).set 4 (.slice a1 ds.length c1)
  have O9 := hidden (O8.out.but hb (by first | exact .inl (by omega) | exact .inr (by omega)))
  have U9 := hidden (U8.out.but hb (by first | exact .inl (by omega) | exact .inr (by omega)))
  unfold set5 at hb z8 B8 O9 U9 P8 R8 G8 X8
  have hS8 : ((((((w7).setCell ⟨QB, 0, none⟩ (.int .i64 o)).setCell ⟨QB, 1, none⟩ (.int .i64 d)).setCell ⟨QB, 2, none⟩ (.int .i64 b)).setCell ⟨QB, 3, none⟩ (.int .i64 k)).setCell ⟨QB, 4, none⟩ (.slice a1 ds.length c1)).cell? ⟨GB, 0, none⟩ = some (.int .i64 gn) ∧ ((((((w7).setCell ⟨QB, 0, none⟩ (.int .i64 o)).setCell ⟨QB, 1, none⟩ (.int .i64 d)).setCell ⟨QB, 2, none⟩ (.int .i64 b)).setCell ⟨QB, 3, none⟩ (.int .i64 k)).setCell ⟨QB, 4, none⟩ (.slice a1 ds.length c1)).cell? ⟨GB, 1, none⟩ = some (.int .i64 gs) ∧ ((((((w7).setCell ⟨QB, 0, none⟩ (.int .i64 o)).setCell ⟨QB, 1, none⟩ (.int .i64 d)).setCell ⟨QB, 2, none⟩ (.int .i64 b)).setCell ⟨QB, 3, none⟩ (.int .i64 k)).setCell ⟨QB, 4, none⟩ (.slice a1 ds.length c1)).cell? ⟨XB, 0, none⟩ = some (.int .i64 o) ∧ ((((((w7).setCell ⟨QB, 0, none⟩ (.int .i64 o)).setCell ⟨QB, 1, none⟩ (.int .i64 d)).setCell ⟨QB, 2, none⟩ (.int .i64 b)).setCell ⟨QB, 3, none⟩ (.int .i64 k)).setCell ⟨QB, 4, none⟩ (.slice a1 ds.length c1)).cell? ⟨XB, 1, none⟩ = some (.int .i64 d) ∧ ((((((w7).setCell ⟨QB, 0, none⟩ (.int .i64 o)).setCell ⟨QB, 1, none⟩ (.int .i64 d)).setCell ⟨QB, 2, none⟩ (.int .i64 b)).setCell ⟨QB, 3, none⟩ (.int .i64 k)).setCell ⟨QB, 4, none⟩ (.slice a1 ds.length c1)).cell? ⟨XB, 2, none⟩ = some (.int .i64 b) ∧ ((((((w7).setCell ⟨QB, 0, none⟩ (.int .i64 o)).setCell ⟨QB, 1, none⟩ (.int .i64 d)).setCell ⟨QB, 2, none⟩ (.int .i64 b)).setCell ⟨QB, 3, none⟩ (.int .i64 k)).setCell ⟨QB, 4, none⟩ (.slice a1 ds.length c1)).cell? ⟨XB, 3, none⟩ = some (.int .i64 k) ∧ ((((((w7).setCell ⟨QB, 0, none⟩ (.int .i64 o)).setCell ⟨QB, 1, none⟩ (.int .i64 d)).setCell ⟨QB, 2, none⟩ (.int .i64 b)).setCell ⟨QB, 3, none⟩ (.int .i64 k)).setCell ⟨QB, 4, none⟩ (.slice a1 ds.length c1)).cell? ⟨XB, 4, none⟩ = some (.slice a1 ds.length c1) := ⟨G8.cell 0, G8.cell 1, X8.cell 0, X8.cell 1, X8.cell 2, X8.cell 3, X8.cell 4⟩
  refine held_one (i := 6) (by kernel_rfl) rfl (by kernel_rfl) (fun K hK => ?_)
  clear hHeld
  go_simp
  refine hK.out _ _ ?_ (fun hHeld => ?_)
  · exact hS8
  clear hK K hS8 hb fz s0 s1 s2 s3 s4 P7 R7 G7 X7 Q7 B7 O8 U8
  generalize (((((w7).setCell ⟨QB, 0, none⟩ (.int .i64 o)).setCell ⟨QB, 1, none⟩ (.int .i64 d)).setCell ⟨QB, 2, none⟩ (.int .i64 b)).setCell ⟨QB, 3, none⟩ (.int .i64 k)).setCell ⟨QB, 4, none⟩ (.slice a1 ds.length c1) = w8 at z8 B8 O9 U9 P8 R8 G8 X8 Q8 ⊢
  obtain ⟨s0, s1, s2, s3, s4⟩ := R8.cells5
  have fz := R8.frozen
  have hb := set5_but w8 RB (.int .i64 o2) (.int .i64 d2) (.int .i64 b2) (.int .i64 k2) (.slice a2 ds2.length c2)
  have P9 := P8.kept (hb.block _ (by omega) (by omega))
  have Q9 := Q8.kept (hb.block _ (by omega) (by omega))
  have G9 := G8.kept (hb.block _ (by omega) (by omega))
  have X9 := X8.kept (hb.block _ (by omega) (by omega))
  have B9 := B8.trans (hb.below (B := w.heap.size) (by omega) (by omega))
  have z9 := hb.size
  have R9 := ((((R8.set 0 (.int .i64 o2)).set 1 (.int .i64 d2)).set 2 (.int .i64 b2)).set 3 (.int .i64 k2)).set 4 (.slice a2 ds2.length c2)
  have O10 := hidden (O9.out.but hb (by first | exact .inl (by omega) | exact .inr (by omega)))
  have U10 := hidden (U9.out.but hb (by first | exact .inl (by omega) | exact .inr (by omega)))
  unfold set5 at hb z9 B9 O10 U10 P9 Q9 G9 X9
  have hS9 : ((((((w8).setCell ⟨RB, 0, none⟩ (.int .i64 o2)).setCell ⟨RB, 1, none⟩ (.int .i64 d2)).setCell ⟨RB, 2, none⟩ (.int .i64 b2)).setCell ⟨RB, 3, none⟩ (.int .i64 k2)).setCell ⟨RB, 4, none⟩ (.slice a2 ds2.length c2)).cell? ⟨GB, 0, none⟩ = some (.int .i64 gn) ∧ ((((((w8).setCell ⟨RB, 0, none⟩ (.int .i64 o2)).setCell ⟨RB, 1, none⟩ (.int .i64 d2)).setCell ⟨RB, 2, none⟩ (.int .i64 b2)).setCell ⟨RB, 3, none⟩ (.int .i64 k2)).setCell ⟨RB, 4, none⟩ (.slice a2 ds2.length c2)).cell? ⟨GB, 1, none⟩ = some (.int .i64 gs) ∧ ((((((w8).setCell ⟨RB, 0, none⟩ (.int .i64 o2)).setCell ⟨RB, 1, none⟩ (.int .i64 d2)).setCell ⟨RB, 2, none⟩ (.int .i64 b2)).setCell ⟨RB, 3, none⟩ (.int .i64 k2)).setCell ⟨RB, 4, none⟩ (.slice a2 ds2.length c2)).cell? ⟨XB, 0, none⟩ = some (.int .i64 o) ∧ ((((((w8).setCell ⟨RB, 0, none⟩ (.int .i64 o2)).setCell ⟨RB, 1, none⟩ (.int .i64 d2)).setCell ⟨RB, 2, none⟩ (.int .i64 b2)).setCell ⟨RB, 3, none⟩ (.int .i64 k2)).setCell ⟨RB, 4, none⟩ (.slice a2 ds2.length c2)).cell? ⟨XB, 1, none⟩ = some (.int .i64 d) ∧ ((((((w8).setCell ⟨RB, 0, none⟩ (.int .i64 o2)).setCell ⟨RB, 1, none⟩ (.int .i64 d2)).setCell ⟨RB, 2, none⟩ (.int .i64 b2)).setCell ⟨RB, 3, none⟩ (.int .i64 k2)).setCell ⟨RB, 4, none⟩ (.slice a2 ds2.length c2)).cell? ⟨XB, 2, none⟩ = some (.int .i64 b) ∧ ((((((w8).setCell ⟨RB, 0, none⟩ (.int .i64 o2)).setCell ⟨RB, 1, none⟩ (.int .i64 d2)).setCell ⟨RB, 2, none⟩ (.int .i64 b2)).setCell ⟨RB, 3, none⟩ (.int .i64 k2)).setCell ⟨RB, 4, none⟩ (.slice a2 ds2.length c2)).cell? ⟨XB, 3, none⟩ = some (.int .i64 k) ∧ ((((((w8).setCell ⟨RB, 0, none⟩ (.int .i64 o2)).setCell ⟨RB, 1, none⟩ (.int .i64 d2)).setCell ⟨RB, 2, none⟩ (.int .i64 b2)).setCell ⟨RB, 3, none⟩ (.int .i64 k2)).setCell ⟨RB, 4, none⟩ (.slice a2 ds2.length c2)).cell? ⟨XB, 4, none⟩ = some (.slice a1 ds.length c1) := ⟨G9.cell 0, G9.cell 1, X9.cell 0, X9.cell 1, X9.cell 2, X9.cell 3, X9.cell 4⟩
  refine held_one (i := 7) (by kernel_rfl) rfl (by kernel_rfl) (fun K hK => ?_)
  clear hHeld
  go_simp
  refine hK.out _ _ ?_ (fun hHeld => ?_)
  · exact hS9
  clear hK K hS9 hb fz s0 s1 s2 s3 s4 P8 Q8 G8 X8 R8 B8 O9 U9
  generalize (((((w8).setCell ⟨RB, 0, none⟩ (.int .i64 o2)).setCell ⟨RB, 1, none⟩ (.int .i64 d2)).setCell ⟨RB, 2, none⟩ (.int .i64 b2)).setCell ⟨RB, 3, none⟩ (.int .i64 k2)).setCell ⟨RB, 4, none⟩ (.slice a2 ds2.length c2) = w9 at z9 B9 O10 U10 P9 Q9 G9 X9 R9 ⊢
  clear hHeld
  refine wpAnyH_done (by kernel_rfl) ?_ _
  obtain ⟨p0, p1⟩ := P9.cells2
  obtain ⟨q0, q1, q2, q3, q4⟩ := Q9.cells5
  obtain ⟨r0, r1, r2, r3, r4⟩ := R9.cells5
  have R1 := hidden O10.out.rd
  have R2 := hidden U10.out.rd
  have HC := hidden (And.intro hgeo (And.intro hc1 hc2))
  clear P9 Q9 R9 G9 X9 O10 U10 hgeo hc1 hc2
  go_wp2
  refine bodyPost_ret (v := .tuple #[.agg #[.int .i64 gn, .int .i64 gs], .agg #[.int .i64 o, .int .i64 d, .int .i64 b, .int .i64 k, .slice a1 ds.length c1], .agg #[.int .i64 o2, .int .i64 d2, .int .i64 b2, .int .i64 k2, .slice a2 ds2.length c2]]) (by simp [results, Try.results13, go_sem, p0, p1, q0, q1, q2, q3, q4, r0, r1, r2, r3, r4]) rfl ?_
  exact ⟨gn, gs, o, d, b, k, a1, c1, ds, o2, d2, b2, k2, a2, c2, ds2, rfl, HC.out.1, HC.out.2.1, HC.out.2.2, hl1, hl2, R1.out, R2.out, B9⟩

theorem drawCmds_any (w : World) (a : Option Addr) (lb cb : Nat) (zs : List Int) (hz : zs.length = lb) (hr : Reads .u8 w a zs) (hby : ∀ n ∈ zs, 0 ≤ n ∧ n ≤ 255) (hlb : lb ≤ 2097152) :
    Calls Try.prog 13 #[.slice a lb cb] w fun e w' => ∃ (gn gs o d b k : Int) (a' : Option Addr) (c' : Nat) (ds : List Int) (o2 d2 b2 k2 : Int) (a2 : Option Addr) (c2 : Nat) (ds2 : List Int), e = .returned (.tuple #[.agg #[.int .i64 gn, .int .i64 gs], .agg #[.int .i64 o, .int .i64 d, .int .i64 b, .int .i64 k, .slice a' ds.length c'], .agg #[.int .i64 o2, .int .i64 d2, .int .i64 b2, .int .i64 k2, .slice a2 ds2.length c2]]) ∧ geoB gn gs = true ∧ codeC gn gs o d b k ds = 0 ∧ codeC gn gs o2 d2 b2 k2 ds2 = 0 ∧ ds.length ≤ 6 ∧ ds2.length ≤ 6 ∧ Reads .i64 w' a' ds ∧ Reads .i64 w' a2 ds2 ∧ Below w.heap.size w w' := by
  refine (drawCmds_v w a lb cb zs hz hr hby hlb).mono ?_
  rintro e w' ⟨gn, gs, o, d, b, k, a1, c1, ds, o2, d2, b2, k2, a2, c2, ds2, he, h1, h2, h3, h4, h5, r1, r2, hb⟩
  exact ⟨gn, gs, o, d, b, k, a1, c1, ds, o2, d2, b2, k2, a2, c2, ds2, he, h1, h2, h3, h4, h5, (ints_rd r1).1, (ints_rd r2).1, hb⟩

end Go.Proofs.Ytgjomldcnjjpaaa

/-
  Both Zeros answer as many 0 as there are blocks. No condition.
-/
namespace Go.Proofs.Ytgjomldcnjjpaaa
open Go.RowKit

def zerosC (gn gs : Int) : List Int := List.replicate (blocksN gn gs).toNat 0
theorem zerosC_le (gn gs : Int) : (zerosC gn gs).length ≤ 32 := by
  have := blocksN_range gn gs
  unfold zerosC
  rw [List.length_replicate]
  omega

set_option maxHeartbeats 1600000 in
theorem implZeros_any (w : World) (gn gs : Int) :
    Calls Try.prog 16 #[.agg #[.int .i64 gn, .int .i64 gs]] w fun e w' => ∃ a l c, e = .returned (.slice a l c) ∧ tIntS.Own w' w.heap.size w'.heap.size [.slice a l c] (zerosC gn gs) ∧ Below w.heap.size w w' := by
  obtain ⟨i0, hi, hz0, hz1, hz2⟩ := info_parts Try.info3
  have hA := new_below w (.cells #[.int .i64 gn, .int .i64 gs] 25)
  have hbr := blocksN_range gn gs
  go_enter Try.func16, Try.ntmps16
  go_wp2_with fail
  refine (implBlocks_any _ gn gs).mono ?_
  rintro e w1 ⟨rfl, b1⟩
  have B1 := Below.andThen hA b1
  have hZ : zerosC gn gs = List.replicate (blocksN gn gs).toNat 0 := rfl
  obtain ⟨N, hN⟩ : ∃ N : Nat, blocksN gn gs = N := ⟨(blocksN gn gs).toNat, by omega⟩
  rw [hN] at hZ hbr ⊢
  have e1 : ((N : Int)).toNat = N := by omega
  rw [e1] at hZ
  have hb3 : i0.bytes * N ≤ 281474976710656 := by rw [hz2]; omega
  have hm3 : N ≤ maxLen := by unfold maxLen; omega
  have s1 := B1.size
  go_wp2_with (at_make; refine wpList_make_full _ rfl _ _ 26 rfl w1.heap.size 3 i0 (.int .i64 0) 1 Try.underlying26 hi hz0 hz1 _ _ _ _ N rfl rfl rfl rfl hb3 hm3 (Nat.le_refl _) ?_; intro w2 hown hgrow)
  go_ret
  rw [made_ints] at hown
  have ho : Owns .i64 3 w2 w1.heap.size (.slice (some ⟨w1.heap.size, 0, none⟩) N N) (List.replicate N 0) := by
    unfold Owns
    rw [List.length_replicate]
    exact hown
  have b2 : Below w1.heap.size w1 w2 := (Below.refl _ _).grown hgrow (Nat.le_refl _) (by simp)
  refine ⟨_, _, _, rfl, ?_, Below.andThen B1 b2⟩
  rw [hZ]
  exact (own_ints ho).widen s1 (Nat.le_refl _)

set_option maxHeartbeats 1600000 in
theorem specZeros_any (w : World) (gn gs : Int) :
    Calls Try.prog 18 #[.agg #[.int .i64 gn, .int .i64 gs]] w fun e w' => ∃ a l c, e = .returned (.slice a l c) ∧ tIntS.Own w' w.heap.size w'.heap.size [.slice a l c] (zerosC gn gs) ∧ Below w.heap.size w w' := by
  obtain ⟨i0, hi, hz0, hz1, hz2⟩ := info_parts Try.info3
  have hA : Below w.heap.size w ((w.alloc (.cells #[.int .i64 gn, .int .i64 gs] 25)).alloc (.cells #[] 3)) := (new_below w _).alloc (by simp) _
  have G : Box ((w.alloc (.cells #[.int .i64 gn, .int .i64 gs] 25)).alloc (.cells #[] 3)) w.heap.size 25 #[.int .i64 gn, .int .i64 gs] := (Box.new w _ _).below (new_below _ _) (by simp)
  have hO : Owns .i64 3 ((w.alloc (.cells #[.int .i64 gn, .int .i64 gs] 25)).alloc (.cells #[] 3)) (w.heap.size + 1) (.slice (some ⟨w.heap.size + 1, 0, none⟩) 0 0) [] := by
    have := Owns.lit .i64 3 (w.alloc (.cells #[.int .i64 gn, .int .i64 gs] 25)) [] 0 #[] rfl rfl (by unfold maxLen; omega)
    simpa using this
  have hbr := blocksN_range gn gs
  have hZ : zerosC gn gs = List.replicate (blocksN gn gs).toNat 0 := rfl
  obtain ⟨N, hN⟩ : ∃ N : Nat, blocksN gn gs = N := ⟨(blocksN gn gs).toNat, by omega⟩
  have e1 : ((N : Int)).toNat = N := by omega
  rw [hN, e1] at hZ
  have HN := hidden hN
  rw [hN] at hbr
  go_enter Try.func18, Try.ntmps18
  go_wp2
  go_loopw [3, 4] (fun o i wr => ∃ j : Nat, j ≤ N ∧ i = .int .i64 j ∧ Owns .i64 3 wr (w.heap.size + 1) o (List.replicate j 0) ∧ Box wr w.heap.size 25 #[.int .i64 gn, .int .i64 gs] ∧ Below w.heap.size w wr ∧ w.heap.size + 1 ≤ wr.heap.size) (fun _ i _ => N - (intOf i).toNat)
  case atStart => exact ⟨0, Nat.zero_le _, rfl, hO, G, hA, by simp⟩
  case round =>
    obtain ⟨j, hj, rfl, ho, g, hb, hs⟩ := hrel
    obtain ⟨g0, g1⟩ := g.cells2
    have zg := g.lt
    go_wp2_with fail
    refine (specBlocks_any _ gn gs).mono ?_
    rintro e w1 ⟨rfl, b1⟩
    rw [HN.out]
    have HO := hidden (ho.below b1 (Nat.le_refl _))
    have G1 := g.below b1 zg
    have B1 := Below.andThen hb b1
    have s1 := b1.size
    clear ho hb g0 g1 b1 g
    by_cases hjn : j < N
    · have b2 := new_below w1 (.cells #[.int .i64 0] 3)
      have G2 := G1.below b2 G1.lt
      have B2 := Below.andThen B1 b2
      go_wp2_with (at_builtin; refine wpList_app .i64 (by rfl) _ _ 26 (by rfl) (w.heap.size + 1) 3 i0 _ 8 Try.underlying26 hi hz0 hz1 hz2 rfl _ (List.replicate j 0) (by rfl) (HO.out.alloc _) ⟨w1.heap.size, 0, none⟩ 1 1 [0] (by rfl) rfl (Reads.new _ _ _ _ _ rfl) ?h1 ?h2 ?h3 ?_)
      case h1 => unfold maxLen; simp; omega
      case h2 => simp; omega
      case h3 => simp; omega
      intro v' w3 ho3 hb3
      rw [← List.replicate_succ'] at ho3
      have HO3 := hidden ho3
      have HB := hidden (B2.trans (hb3.mono (Nat.le_succ _)))
      have G3 := hidden (G2.below hb3 (Nat.lt_succ_self _))
      have s3 := hb3.size
      clear ho3 hb3 HO B1 B2
      go_wp2
      go_roundw
      case rel => exact ⟨j + 1, by omega, by go_num, HO3.out, G3.out, HB.out, by simp at s3; omega⟩
      case measure => simp [intOf]; omega
    · obtain rfl : j = N := by omega
      go_wp2
      obtain ⟨a, c, hv, _⟩ := HO.out.shape
      subst hv
      go_ret
      refine ⟨_, _, _, rfl, ?_, B1⟩
      rw [hZ]
      exact (own_ints HO.out).widen (Nat.le_succ _) (Nat.le_refl _)

end Go.Proofs.Ytgjomldcnjjpaaa

/-
  The walk of the laws' look whether there are too many bytes to draw from; bytes are 0 to 255. No condition.
-/
namespace Go.Proofs.Ytgjomldcnjjpaaa
open Go.RowKit

theorem bytes_of_wf {zs : List Int} (h : ∀ n ∈ zs, (Lit.int .u8 n).wf = true) : ∀ n ∈ zs, 0 ≤ n ∧ n ≤ 255 := by
  intro n hn
  have := h n hn
  simp [Lit.wf, IntKind.min, IntKind.max, IntKind.signed, IntKind.bits] at this
  omega

theorem big_any (a : Option Addr) (len cap : Nat) (w : World) : Calls Try.prog 7 #[.slice a len cap] w fun e w' => e = .returned (.bool (decide (1048576 < (len : Int)))) ∧ w = w' := by
  go_enter Try.func7, Try.ntmps7
  go_wp2
  go_ret
  exact ⟨rfl, rfl⟩

end Go.Proofs.Ytgjomldcnjjpaaa

/-
  The walk of the laws' at: a byte of the code, or a number that follows from its length. Condition: at most 2097152 bytes.
-/
namespace Go.Proofs.Ytgjomldcnjjpaaa
open Go.RowKit

set_option maxHeartbeats 800000 in
theorem at_any (w : World) (a : Option Addr) (lb cb : Nat) (zs : List Int) (i : Nat) (hz : zs.length = lb) (hr : Reads .u8 w a zs) (hby : ∀ n ∈ zs, 0 ≤ n ∧ n ≤ 255) (hlb : lb ≤ 2097152) (hi : i ≤ 256) :
    Calls Try.prog 10 #[.slice a lb cb, .int .i64 i] w fun e w' => ∃ x : Int, e = .returned (.int .i64 x) ∧ 0 ≤ x ∧ x ≤ 255 ∧ Same w w' := by
  by_cases hlt : i < lb
  · have k1 : (i : Int) < (lb : Int) := by omega
    have k2 : (0 : Int) ≤ (i : Int) := by omega
    rcases hr.cases with h0 | ⟨b, off, rfl, hbl, hcz⟩
    · omega
    have hc := hcz i (by omega)
    have hx : 0 ≤ zs.getD i 0 ∧ zs.getD i 0 ≤ 255 := hby _ (List.mem_iff_getElem?.2 ⟨i, by rw [List.getD_eq_getElem?_getD, List.getElem?_eq_getElem (by omega)]; rfl⟩)
    generalize zs.getD i 0 = x at hc hx
    have gw : IntKind.i64.wrap x = x := IntWalk.i64_in _ (by omega)
    clear hcz
    go_enter Try.func10, Try.ntmps10
    go_wp2
    go_ret
    exact ⟨x, by first | rfl | simp [gw], hx.1, hx.2, Same.refl _⟩
  · have k1 : ¬ (i : Int) < (lb : Int) := by omega
    go_enter Try.func10, Try.ntmps10
    go_wp2
    go_ret
    exact ⟨_, rfl, by omega, by omega, Same.refl _⟩

end Go.Proofs.Ytgjomldcnjjpaaa

/-
  The walk of the laws' own comparison of slices of byte: it tells whether two slices read alike. Condition: at most 2097152 elements in the first.
-/
namespace Go.Proofs.Ytgjomldcnjjpaaa
open Go.RowKit


end Go.Proofs.Ytgjomldcnjjpaaa

/-
  The walk of the law of models: whatever bytes it draws from, it answers true, and nothing that was there has turned. No condition.
-/
namespace Go.Proofs.Ytgjomldcnjjpaaa
open Go.RowKit

/-- 'append' of a row of one's own to another that has a block: the row that comes of it has one. -/
theorem wpList_appOwnS {P : Program} {w : World} {ops : Array Oper} {rest : List Oper} {o : Oper} {a : Act} {Q : Exit → Act → World → Prop} (t : Ty) (hone : ∀ w vs d f, t.ow w vs d f → ∀ u ∈ vs, u.oneCell' = true) (hwt : Region.wanted o (yielded ops a.tmps) = true) (s x : Operand) (T : TypeId)
    (ho : o.op = .call { callee := .builtin .append, args := #[s, x], argTypes := #[T, T] })
    (E : TypeId) (i : TypeInfo) (z : Value) (bytes : Nat) (ht : P.underlying T = some (.slice E)) (hi : P.info? E = some i) (hz : i.zero = some z)
    (hsize : i.size = t.n) (hby : i.bytes = bytes) (hzs : z.cells.size = t.n) (hsz : 0 < t.n)
    (b cap : Nat) (d : List t.D) (fp : List Nat) (hs : a.eval s = .slice (some ⟨b, 0, none⟩) d.length cap) (hown : (rowTy t E).Mine w [.slice (some ⟨b, 0, none⟩) d.length cap] d fp)
    (b2 c : Nat) (ys : List t.D) (fq : List Nat) (hx : a.eval x = .slice (some ⟨b2, 0, none⟩) ys.length c) (hy : (rowTy t E).Mine w [.slice (some ⟨b2, 0, none⟩) ys.length c] ys fq) (hdis : ∀ b ∈ fp, b ∉ fq)
    (h63 : d.length + ys.length ≤ maxLen) (hbytes : (d.length + ys.length) * bytes ≤ 140737488355328) (u : List t.D) (hu : d ++ ys = u) (m : Nat) (hm : d.length + ys.length = m)
    (h : ∀ g cap' w' fp', (rowTy t E).Mine w' [.slice (some ⟨g, 0, none⟩) m cap'] u fp' → (∀ b ∈ fp', b ∈ fp ∨ b ∈ fq ∨ (b = w.heap.size ∧ b < w'.heap.size)) → Turned fp w w' → wpList P ops Q rest (a.put o.dst (.slice (some ⟨g, 0, none⟩) m cap')) w') : wpList P ops Q (o :: rest) a w := by
  subst hu hm
  obtain ⟨cs, fps, g1, rfl, g3, g4, _, g6⟩ := row_seg hy
  have he := g6 0 ys.length (by omega)
  have e1 : (cs.drop (0 * t.n)).take (ys.length * t.n) = cs := by rw [Nat.zero_mul, List.drop_zero, List.take_of_length_le (by omega)]
  have e2 : (ys.drop 0).take ys.length = ys := by rw [List.drop_zero, List.take_length]
  have e3 : (fps.drop 0).take ys.length = fps := by rw [List.drop_zero, ← g1, List.take_length]
  rw [e1, e2, e3] at he
  obtain ⟨xs, hrow, hback⟩ := row_cellsN (lo := 0) hown (fun _ _ => Nat.zero_le _)
  refine wpList_unguard hwt ?_
  refine wpList_append_own_at w rfl s x T ho 0 E i z t.n bytes ht hi hz hsize hby hzs hsz _ d.length xs hs hrow ⟨b2, 0, none⟩ ys.length c cs hx he.1 (fun j u hu => ?_) (elems_one he hone hsz) h63 hbytes (Nat.zero_le _) ?_
  · have : (⟨b2, 0, none⟩ : Addr).add j = ⟨b2, j, none⟩ := by unfold Addr.add; split <;> simp_all
    rw [this]
    exact g4 j u hu
  intro v' w' k1 k2 k3 k4
  obtain ⟨fp', m1, m2, m3⟩ := hback w' v' cs ys fps he (fun q hq hq' => hdis q hq (List.mem_cons_of_mem _ hq')) k1 k2 k4
  rcases k1.2 with ⟨hv0, _⟩ | ⟨g, cap', _, hv', _⟩
  · simp at k3
    exact absurd hv0 k3
  · subst hv'
    refine h g cap' w' fp' m1 (fun q hq => ?_) m3
    rcases m2 q hq with h | h | h
    · exact .inl h
    · exact .inr (.inl (List.mem_cons_of_mem _ h))
    · exact .inr (.inr h)

theorem ans2_cells {E : TypeId} {w : World} {b cap : Nat} {d c d2 c2 : Int} {zs ys : List Int} (h : (tAnsS E).Rd w [.slice (some ⟨b, 0, none⟩) 2 cap] [(d, c, zs), (d2, c2, ys)]) :
    b < w.heap.size ∧ ∃ a l a2 l2, w.cell? ⟨b, 0, none⟩ = some (.int .i64 d) ∧ w.cell? ⟨b, 1, none⟩ = some (.int .i64 c) ∧ w.cell? ⟨b, 2, none⟩ = some (.slice a zs.length l) ∧ w.cell? ⟨b, 3, none⟩ = some (.int .i64 d2) ∧ w.cell? ⟨b, 4, none⟩ = some (.int .i64 c2) ∧ w.cell? ⟨b, 5, none⟩ = some (.slice a2 ys.length l2) ∧ tIntS.Rd w [.slice a zs.length l] zs ∧ tIntS.Rd w [.slice a2 ys.length l2] ys := by
  rcases ansS_at h with h0 | ⟨b', off, hb, hlt, hc⟩
  · omega
  simp only [Option.some.injEq, Addr.mk.injEq, and_true] at hb
  obtain ⟨rfl, rfl⟩ := hb
  obtain ⟨a, l, h1, h2, h3, h4⟩ := hc 0 d c zs rfl
  obtain ⟨a2, l2, g1, g2, g3, g4⟩ := hc 1 d2 c2 ys rfl
  exact ⟨hlt, a, l, a2, l2, h1, h2, h3, g1, g2, g3, h4, g4⟩
theorem sameInts_refl (w : World) (a b : Option Addr) (l ca cb : Nat) (xs : List Int) (h1 : tIntS.Rd w [.slice a l ca] xs) (h2 : tIntS.Rd w [.slice b l cb] xs) (hlen : l ≤ 2097152) :
    Calls Try.prog 11 #[.slice a l ca, .slice b l cb] w fun e w' => e = .returned (.bool true) ∧ Below w.heap.size w w' := by
  refine (sameInts_any w a b l l ca cb xs xs (ints_rd h1).2.1 (ints_rd h1).2.1 (ints_rd h1).1 (ints_rd h2).1 hlen).mono ?_
  rintro e w' ⟨rfl, hs⟩
  exact ⟨by simp, hs.below _⟩
/-- Two right commands that do not meet, done in both orders. -/
theorem doS_two {gn gs o d b k o2 d2 b2 k2 : Int} {zs zs2 : List Int} (hg : geoB gn gs = true) (h1 : codeC gn gs o d b k zs = 0) (h2 : codeC gn gs o2 d2 b2 k2 zs2 = 0) (hm : metC (spanC gn gs o d b k zs) (spanC gn gs o2 d2 b2 k2 zs2) = false) :
    ∃ (L : List Int) (dA cA : Int) (zA : List Int) (dB cB : Int) (zB : List Int), doS gn gs (zerosC gn gs) [(o, d, b, k, zs), (o2, d2, b2, k2, zs2)] = (L, [(dA, cA, zA), (dB, cB, zB)]) ∧ doS gn gs (zerosC gn gs) [(o2, d2, b2, k2, zs2), (o, d, b, k, zs)] = (L, [(dB, cB, zB), (dA, cA, zA)]) ∧ zA.length ≤ 6 ∧ zB.length ≤ 6 := by
  have hl : ((zerosC gn gs).length : Int) = blocksN gn gs := by
    have := blocksN_range gn gs
    unfold zerosC
    rw [List.length_replicate]
    omega
  obtain ⟨e1, e2, e3⟩ := do1_comm hg h1 h2 hl hm
  have v1 := do1_vals gn gs (zerosC gn gs) (o, d, b, k, zs)
  have v2 := do1_vals gn gs (zerosC gn gs) (o2, d2, b2, k2, zs2)
  have a1 : doS gn gs (zerosC gn gs) [(o, d, b, k, zs), (o2, d2, b2, k2, zs2)] = ((do1 gn gs (do1 gn gs (zerosC gn gs) (o, d, b, k, zs)).1 (o2, d2, b2, k2, zs2)).1, [(do1 gn gs (zerosC gn gs) (o, d, b, k, zs)).2, (do1 gn gs (do1 gn gs (zerosC gn gs) (o, d, b, k, zs)).1 (o2, d2, b2, k2, zs2)).2]) := rfl
  have a2 : doS gn gs (zerosC gn gs) [(o2, d2, b2, k2, zs2), (o, d, b, k, zs)] = ((do1 gn gs (do1 gn gs (zerosC gn gs) (o2, d2, b2, k2, zs2)).1 (o, d, b, k, zs)).1, [(do1 gn gs (zerosC gn gs) (o2, d2, b2, k2, zs2)).2, (do1 gn gs (do1 gn gs (zerosC gn gs) (o2, d2, b2, k2, zs2)).1 (o, d, b, k, zs)).2]) := rfl
  rw [e2] at a1
  rw [← e1, e3] at a2
  generalize (do1 gn gs (do1 gn gs (zerosC gn gs) (o, d, b, k, zs)).1 (o2, d2, b2, k2, zs2)).1 = L at a1 a2
  generalize (do1 gn gs (zerosC gn gs) (o, d, b, k, zs)).2 = A at a1 a2 v1
  generalize (do1 gn gs (zerosC gn gs) (o2, d2, b2, k2, zs2)).2 = B at a1 a2 v2
  obtain ⟨dA, cA, zA⟩ := A
  obtain ⟨dB, cB, zB⟩ := B
  exact ⟨L, dA, cA, zA, dB, cB, zB, a1, a2, v1, v2⟩

theorem lit2_rd {t : Ty} {E : TypeId} {w : World} {us vs : List Value} {x y : t.D} (h1 : t.Rd w us x) (h2 : t.Rd w vs y) (cs : Array Value) (hc : cs = (us ++ vs).toArray) : (rowTy t E).Rd (w.alloc (.cells cs E)) [.slice (some ⟨w.heap.size, 0, none⟩) 2 2] [x, y] := by
  obtain ⟨f1, r1⟩ := h1
  obtain ⟨f2, r2⟩ := h2
  have l1 := t.rdLen r1
  have l2 := t.rdLen r2
  have k1 := t.rdKept r1 (w' := w.alloc (.cells cs E)) (fun b hb => (new_below w (.cells cs E)).block b (t.rdLt r1 b hb)) (new_below w _).size
  have k2 := t.rdKept r2 (w' := w.alloc (.cells cs E)) (fun b hb => (new_below w (.cells cs E)).block b (t.rdLt r2 b hb)) (new_below w _).size
  have hcell : ∀ j, (w.alloc (.cells cs E)).cell? ⟨w.heap.size, j, none⟩ = (us ++ vs)[j]? := fun j => by
    rw [cell_of_row _ w.heap.size j cs E (0, 0) (heap_alloc_new w _), hc]
    simp
  refine ⟨w.heap.size :: ([f1, f2] : List (List Nat)).flatten, _, 2, rfl, Nat.le_refl _, by omega, .inr ⟨w.heap.size, 0, [f1, f2], rfl, by simp, rfl, rfl, fun i z hz => ?_⟩⟩
  match i, hz with
  | 0, hz =>
    simp at hz
    subst hz
    refine ⟨f1, us, rfl, k1, fun j hj => ?_⟩
    rw [hcell, Nat.zero_mul, Nat.zero_add, Nat.zero_add, List.getElem?_append_left (by omega)]
  | 1, hz =>
    simp at hz
    subst hz
    refine ⟨f2, vs, rfl, k2, fun j hj => ?_⟩
    rw [hcell, Nat.one_mul, Nat.zero_add, List.getElem?_append_right (by omega), l1, Nat.add_sub_cancel_left]

set_option maxRecDepth 20000 in
set_option maxHeartbeats 8000000 in
theorem fnModels_walk (a0 : Option Addr) (len0 cap0 : Nat) (z0 : List Int) (w : World) (w0 : IsRow .u8 w a0 len0 cap0 z0) :
    Calls Try.prog 3 #[.slice a0 len0 cap0] w fun e w' => e = .returned (.bool true) ∧ Below w.heap.size w w' := by
  obtain ⟨hr, hl, hwf, hml⟩ := w0.reads
  generalize z0.take len0 = zs at hr hl hwf
  unfold maxLen at hml
  have hby := bytes_of_wf hwf
  clear w0 hwf
  by_cases hbig : len0 ≤ 1048576
  rotate_left
  · go_enter Try.func3, Try.ntmps3
    go_wp2_with fail
    refine (big_any _ _ _ _).mono ?_
    rintro e wb ⟨rfl, rfl⟩
    go_wp2
    go_ret
    exact ⟨rfl, Below.refl _ _⟩
  have hlb : len0 ≤ 2097152 := by omega
  have HBY := hidden hby
  have HR := hidden hr
  go_enter Try.func3, Try.ntmps3
  go_wp2_with fail
  refine (big_any _ _ _ _).mono ?_
  rintro e wb ⟨rfl, rfl⟩
  go_wp2_with fail
  refine (drawDoCmds_any _ _ _ _ zs hl hr hby hlb).mono ?_
  rintro e w1 ⟨gn, gs, a1, c1, ls, b2, c2, cs, rfl, hll, hcl, hcw, RL, RC, B1⟩
  obtain ⟨nl, hnl⟩ : ∃ n, ls.length = n := ⟨_, rfl⟩
  obtain ⟨nc, hnc⟩ : ∃ n, cs.length = n := ⟨_, rfl⟩
  rw [hnl] at RL hll ⊢
  rw [hnc] at RC hcl ⊢
  have HNL := hidden hnl
  have HNC := hidden hnc
  have hcap := (row_length RC).2.1
  have hcapm := (row_length RC).2.2
  have bG := new_below w1 (.cells #[.int .i64 gn, .int .i64 gs] 25)
  have BG2 := hidden (Box.new w1 25 #[.int .i64 gn, .int .i64 gs])
  have z2 := BG2.out.lt
  have B2 := hidden (B1.trans (bG.mono B1.size))
  have LS2 := hidden (RL.below bG)
  have CS2 := hidden (RC.below bG)
  have z1 := B1.size
  clear hr hby hbig hml RL RC B1 hnl hnc bG
  go_wp2_with fail
  generalize w1.alloc (.cells #[.int .i64 gn, .int .i64 gs] 25) = w2 at BG2 z2 B2 LS2 CS2 ⊢
  have zG := z2
  obtain ⟨xs, ys, hx⟩ : ∃ xs ys, doS gn gs ls cs = (xs, ys) := ⟨_, _, rfl⟩
  have hlen := doS_len gn gs ls cs
  have hywt := doS_wt gn gs ls cs
  rw [hx] at hlen hywt
  simp only at hlen hywt
  rw [HNL.out, HNC.out] at hlen
  have hyn : ys.length = nc := by omega
  have HX := hidden hx
  have HY := hidden hyn
  have HXL := hidden hlen.1
  clear hx hyn hlen
  refine (implDoCmds_v _ 37 gn gs _ _ _ ls LS2.out (by omega) _ _ _ cs CS2.out (by omega) HX.out HY.out).mono ?_
  rintro e w3 ⟨mid3, a3, c3, b3, d3, rfl, ox3, oy3, hmm3, hmm3b, hb3⟩
  have B3 := hidden (Below.andThen B2.out hb3)
  have BG3 := hidden (BG2.out.below hb3 (by omega))
  have LS3 := hidden (LS2.out.below hb3)
  have CS3 := hidden (CS2.out.below hb3)
  have z3 := hb3.size
  clear B2 BG2 LS2 CS2 hb3
  have X3 := hidden (ox3.rd)
  have A3 := hidden (oy3)
  clear ox3 oy3
  go_wp2_with fail
  refine (at_any _ _ _ _ zs 2 hl (HR.out.below B3.out) HBY.out hlb (by omega)).mono ?_
  rintro e w4 ⟨q, rfl, hq0, hq1, hs4⟩
  have B4 := hidden (Below.andSame B3.out hs4)
  have BG4 := hidden (BG3.out.same hs4)
  have LS4 := hidden (LS3.out.same hs4)
  have CS4 := hidden (CS3.out.same hs4)
  have X4 := hidden (X3.out.same hs4)
  have A4 := hidden (A3.out.same hs4)
  have z4 := Nat.le_of_eq hs4.size.symm
  clear B3 BG3 LS3 CS3 X3 A3 hs4
  have hm0 : (0 : Int) ≤ q % ((nc : Int) + 1) := Int.emod_nonneg _ (by omega)
  have hm1 : q % ((nc : Int) + 1) < (nc : Int) + 1 := Int.emod_lt_of_pos _ (by omega)
  go_wp2_with fail
  generalize q % ((nc : Int) + 1) = kk at hm0 hm1 ⊢
  obtain ⟨k, rfl⟩ := Int.eq_ofNat_of_zero_le hm0
  have hk : k ≤ nc := by omega
  clear hm0 hm1 hq0 hq1
  obtain ⟨us, bs, hu⟩ : ∃ us bs, doS gn gs ls (cs.take k) = (us, bs) := ⟨_, _, rfl⟩
  obtain ⟨ws, es, hw⟩ : ∃ ws es, doS gn gs us (cs.drop k) = (ws, es) := ⟨_, _, rfl⟩
  have happ := doS_app (gn := gn) (gs := gs) (ls := ls) (cs := cs.take k) (ds := cs.drop k) (by rw [List.take_append_drop, HNC.out]; omega)
  rw [List.take_append_drop, HX.out, hu] at happ
  simp only at happ
  rw [hw] at happ
  simp only [Prod.mk.injEq] at happ
  have hlu := doS_len gn gs ls (cs.take k)
  have hlw := doS_len gn gs us (cs.drop k)
  rw [hu, List.length_take, HNC.out, HNL.out] at hlu
  rw [hw, List.length_drop, HNC.out] at hlw
  simp only at hlu hlw
  rw [hlu.1] at hlw
  have hbn : bs.length = k := by omega
  have hen : es.length = nc - k := by omega
  have HU := hidden hu
  have HW := hidden hw
  have HBN := hidden hbn
  have HEN := hidden hen
  have HUL := hidden hlu.1
  have HWL := hidden hlw.1
  have hwts : wttCmdS (cs.take k) ≤ 1048576 ∧ wttCmdS (cs.drop k) ≤ 1048576 := by
    have h1 : sumL (cs.map fun x => x.2.2.2.2.length) = sumL ((cs.take k).map fun x => x.2.2.2.2.length) + sumL ((cs.drop k).map fun x => x.2.2.2.2.length) := by rw [← sumL_app, ← List.map_append, List.take_append_drop]
    unfold wttCmdS at hcw ⊢
    rw [List.length_take, List.length_drop]
    omega
  have HWT := hidden hwts
  obtain ⟨rfl, rfl⟩ := happ
  clear hu hw hlu hlw hbn hen hwts
  have HT := hidden (rd_take CS4.out hk)
  have HDR : Hid ((tCmdS 37).Rd w4 [.slice (if c2 = k then some ⟨b2, 0, none⟩ else some ⟨b2, k * 5, none⟩) (nc - k) (c2 - k)] (cs.drop k)) := by
    by_cases hck : c2 = k
    · rw [if_pos hck]
      exact rd_drop CS4.out hk 0 (by omega)
    · rw [if_neg hck]
      exact rd_drop CS4.out hk (k * 5) (fun _ => (Nat.zero_add _).symm)
  have T4 := HT
  have DR4 := HDR
  clear HT HDR
  have k0 : (0 : Int) ≤ (k : Int) := by omega
  have k1 : (k : Int) ≤ (c2 : Int) := by omega
  have k2 : (k : Int) ≤ (nc : Int) := by omega
  have k3 : ((k : Int)).toNat = k := by omega
  have k4 : ((nc : Int)).toNat - k = nc - k := by omega
  obtain ⟨m0, m1⟩ := BG4.out.cells2
  have zm := BG4.out.lt
  go_wp2_with fail
  go_region_held3 (fun w' => w'.cell? ⟨w1.heap.size, 0, none⟩ = some (.int .i64 gn) ∧ w'.cell? ⟨w1.heap.size, 1, none⟩ = some (.int .i64 gs))
    (first | (exact ⟨(qc.cell (p := ⟨w1.heap.size, 0, none⟩) zm).trans m0, (qc.cell (p := ⟨w1.heap.size, 1, none⟩) zm).trans m1⟩) | (exact ⟨m0, m1⟩) | go_keep)
    (first | (go_at_call 9; refine (implDoCmds_v _ 37 gn gs _ _ _ ls (by exact LS4.out.drew) (by omega) _ _ _ (cs.take k) (by exact T4.out.drew) HWT.out.1 HU.out HBN.out).mono ?_; rintro e w5 ⟨mid5, a5, c5, b5, d5, rfl, ox5, oy5, hmm5, hmm5b, pn⟩; have qc : Below w4.heap.size w4 w5 := (Below.refl w4.heap.size w4).drew.trans pn))
  clear m0 m1 zm pn
  have B5 := hidden (Below.andThen B4.out qc)
  have BG5 := hidden (BG4.out.below qc (by omega))
  have LS5 := hidden (LS4.out.below qc)
  have CS5 := hidden (CS4.out.below qc)
  have X5 := hidden (X4.out.below qc)
  have A5 := hidden (A4.out.below qc)
  have T5 := hidden (T4.out.below qc)
  have DR5 := hidden (DR4.out.below qc)
  have z5 := qc.size
  clear B4 BG4 LS4 CS4 X4 A4 T4 DR4 qc
  have U5 := hidden (ox5.rd)
  have Bo5 := hidden oy5
  clear ox5 oy5
  go_wp2_with fail
  go_upto_region 7 with fail
  go_cut [5, 11, 12] (fun v5 v11 v12 wx => ∃ lo6 a6 c6 b6 d6, v5 = .slice (some ⟨b2, 0, none⟩) nc c2 ∧ v11 = .slice a6 nl c6 ∧ v12 = .slice (some ⟨b6, 0, none⟩) (nc - k) d6 ∧ tIntS.Rd wx [.slice a6 nl c6] xs ∧ (tAnsS 44).Own wx lo6 wx.heap.size [.slice (some ⟨b6, 0, none⟩) (nc - k) d6] es ∧ w5.heap.size ≤ lo6 ∧ Below w5.heap.size w5 wx)
  case first =>
    have DRX := DR5.out
    by_cases hck : c2 = k
    · rw [if_pos hck] at DRX
      have hcz : c2 - k = 0 := by omega
      rw [hcz] at DRX
      obtain ⟨m0, m1⟩ := BG5.out.cells2
      have zm := BG5.out.lt
      go_region_held3 (fun w' => w'.cell? ⟨w1.heap.size, 0, none⟩ = some (.int .i64 gn) ∧ w'.cell? ⟨w1.heap.size, 1, none⟩ = some (.int .i64 gs))
        (first | (exact ⟨(qc.cell (p := ⟨w1.heap.size, 0, none⟩) zm).trans m0, (qc.cell (p := ⟨w1.heap.size, 1, none⟩) zm).trans m1⟩) | (exact ⟨m0, m1⟩) | go_keep)
        (first | (go_at_call 9; refine (implDoCmds_v _ 37 gn gs _ _ _ us (by exact U5.out.drew) (by omega) _ _ _ (cs.drop k) (by exact DRX.drew) HWT.out.2 HW.out HEN.out).mono ?_; rintro e w6 ⟨mid6, a6, c6, b6, d6, rfl, ox6, oy6, hmm6, _, pn⟩; have qc : Below w5.heap.size w5 w6 := (Below.refl w5.heap.size w5).drew.trans pn))
      go_wp2_with fail
      go_meet
      exact ⟨mid6, _, _, _, _, by rw [hck], rfl, rfl, ox6.rd, oy6, hmm6, qc⟩
    · rw [if_neg hck] at DRX
      obtain ⟨m0, m1⟩ := BG5.out.cells2
      have zm := BG5.out.lt
      go_region_held3 (fun w' => w'.cell? ⟨w1.heap.size, 0, none⟩ = some (.int .i64 gn) ∧ w'.cell? ⟨w1.heap.size, 1, none⟩ = some (.int .i64 gs))
        (first | (exact ⟨(qc.cell (p := ⟨w1.heap.size, 0, none⟩) zm).trans m0, (qc.cell (p := ⟨w1.heap.size, 1, none⟩) zm).trans m1⟩) | (exact ⟨m0, m1⟩) | go_keep)
        (first | (go_at_call 9; refine (implDoCmds_v _ 37 gn gs _ _ _ us (by exact U5.out.drew) (by omega) _ _ _ (cs.drop k) (by exact DRX.drew) HWT.out.2 HW.out HEN.out).mono ?_; rintro e w6 ⟨mid6, a6, c6, b6, d6, rfl, ox6, oy6, hmm6, _, pn⟩; have qc : Below w5.heap.size w5 w6 := (Below.refl w5.heap.size w5).drew.trans pn))
      go_wp2_with fail
      go_meet
      exact ⟨mid6, _, _, _, _, rfl, rfl, rfl, ox6.rd, oy6, hmm6, qc⟩
  case rest =>
    revert wc
    intro w6 hcut
    obtain ⟨lo6, a6, c6, b6, d6, rfl, rfl, rfl, ox6, oy6, hlo6, hb6⟩ := hcut
    have B6 := hidden (Below.andThen B5.out hb6)
    have BG6 := hidden (BG5.out.below hb6 (by omega))
    have LS6 := hidden (LS5.out.below hb6)
    have CS6 := hidden (CS5.out.below hb6)
    have X6 := hidden (X5.out.below hb6)
    have A6 := hidden (A5.out.below hb6)
    have T6 := hidden (T5.out.below hb6)
    have DR6 := hidden (DR5.out.below hb6)
    have U6 := hidden (U5.out.below hb6)
    have Bo6 := hidden (Bo5.out.below hb6)
    have z6 := hb6.size
    clear B5 BG5 LS5 CS5 X5 A5 T5 DR5 U5 Bo5 hb6
    have W6 := hidden ox6
    have C6 := hidden oy6
    clear ox6 oy6
    have hdw : decide (xs = xs) = true := by simp
    go_wp2_with fail
    refine (sameInts_any _ _ _ _ _ _ _ xs xs HXL.out HXL.out (ints_rd X6.out).1 (ints_rd W6.out).1 (by omega)).mono ?_
    rintro e w7 ⟨rfl, hs7⟩
    have B7 := hidden (Below.andSame B6.out hs7)
    have BG7 := hidden (BG6.out.same hs7)
    have LS7 := hidden (LS6.out.same hs7)
    have CS7 := hidden (CS6.out.same hs7)
    have X7 := hidden (X6.out.same hs7)
    have A7 := hidden (A6.out.same hs7)
    have T7 := hidden (T6.out.same hs7)
    have DR7 := hidden (DR6.out.same hs7)
    have U7 := hidden (U6.out.same hs7)
    have Bo7 := hidden (Bo6.out.same hs7)
    have W7 := hidden (W6.out.same hs7)
    have C7 := hidden (C6.out.same hs7)
    have z7 := Nat.le_of_eq hs7.size.symm
    clear B6 BG6 LS6 CS6 X6 A6 T6 DR6 U6 Bo6 W6 C6 hs7
    clear LS7
    clear CS7
    clear BG7
    clear X7
    clear T7
    clear DR7
    clear U7
    clear W7
    obtain ⟨i0, hi, hz0, hz1, hz2⟩ := info_parts Try.infoAns14
    obtain ⟨fq, mq, rq⟩ := Bo7.out.mine
    obtain ⟨fr, mr, rr⟩ := C7.out.mine
    clear Bo7
    clear C7
    have zq5 : mid5 ≤ w5.heap.size := hmm5b
    have zq4 : w4.heap.size ≤ mid5 := hmm5
    have zB := B7.out.size
    have hs8 : (w7.alloc (.cells #[] 44)).heap.size = w7.heap.size + 1 := by simp
    have M0 := hidden (lit0_mine (t := tAns) (E := 44) w7)
    have MQ := hidden (mq.alloc (.cells #[] 44))
    have MR := hidden (mr.alloc (.cells #[] 44))
    have DQ : Hid (∀ b ∈ [w7.heap.size], b ∉ fq) := by
      intro b hb hb'
      simp at hb
      have := rq b hb'
      omega
    have DR : Hid (∀ b ∈ fr, b ∉ [w7.heap.size]) := by
      intro b hb hb'
      simp at hb'
      have := rr b hb
      omega
    have T7 := hidden ((Turned.refl [] w7).alloc (.cells #[] 44))
    have RQ := hidden rq
    have RR := hidden rr
    clear rq rr mq mr
    have hkn : k + (nc - k) = nc := by omega
    have hn0 : ((nc : Int) != (nc : Int)) = false := by simp
    have hx1 : (0 : Nat) + k = k := Nat.zero_add k
    go_wp2_with (first | (at_builtin; refine wpList_appOwnS tAns ans_one (by rfl) _ _ 30 rfl 44 i0 (.agg #[.int .i64 0, .int .i64 0, .slice none 0 0]) 40 Try.underlying30 hi hz0 hz1 hz2 rfl (by decide) w7.heap.size 0 [] [w7.heap.size] rfl M0.out b5 d5 bs fq (by rw [HBN.out]; rfl) (by rw [HBN.out]; exact MQ.out) DQ.out (by rw [HBN.out]; unfold maxLen; simp; omega) (by rw [HBN.out]; simp; omega) bs rfl k (by rw [HBN.out]; exact hx1) ?_; intro g8 c8 w8 fp8 m8 s8 t8; have M8 := hidden m8; have S8 := hidden s8; have T8 := hidden t8; have R8 := hidden (MR.out.kept t8 DR.out); have z8 := t8.size; have D8 : Hid (∀ b ∈ fp8, b ∉ fr) := (fun b hb hb2 => by have h1 := RR.out b hb2; rcases S8.out b hb with h | h | h <;> (first | (simp at h; omega) | (have := RQ.out b h; omega) | omega)); clear m8 s8 t8) | (at_builtin; refine wpList_appOwnS tAns ans_one (by rfl) _ _ 30 rfl 44 i0 (.agg #[.int .i64 0, .int .i64 0, .slice none 0 0]) 40 Try.underlying30 hi hz0 hz1 hz2 rfl (by decide) g8 c8 bs fp8 (by rw [HBN.out]; rfl) (by rw [HBN.out]; exact M8.out) b6 d6 es fr (by rw [HEN.out]; rfl) (by rw [HEN.out]; exact R8.out) D8.out (by rw [HBN.out, HEN.out]; unfold maxLen; omega) (by rw [HBN.out, HEN.out]; omega) (bs ++ es) rfl nc (by rw [HBN.out, HEN.out]; exact hkn) ?_; intro g9 c9 w9 fp9 m9 s9 t9; have M9 := hidden m9; have T9 := hidden t9; clear m9 s9 t9))
    have bu : But mid5 w8.heap.size w7 w9 := by
      refine (((T7.out.mono (fq := w7.heap.size :: fp8) (by simp)).trans (T8.out.mono (fun b hb => by simp at hb; subst hb; exact List.mem_cons_self))).trans (T9.out.mono (fun b hb => List.mem_cons_of_mem _ hb))).but (fun b hb => ?_)
      rcases List.mem_cons.1 hb with rfl | hb
      · omega
      · have := M8.out.lt b hb
        rcases S8.out b hb with h | h | h
        · simp at h
          omega
        · have := RQ.out b h
          omega
        · omega
    clear T7 T8 T9 S8 RQ RR M0 MQ MR DQ DR M8 R8 D8
    have B9 := hidden (Below.andBut B7.out bu (by omega))
    have A9 := hidden (A7.out.but bu (by omega))
    have z9 := bu.size
    clear B7 A7 bu
    refine (sameAnss_same _ 44 44 _ _ _ _ _ (bs ++ es) A9.out.rd M9.out.rd (by omega)).mono ?_
    rintro e w10 ⟨rfl, hb10⟩
    clear A9
    clear M9
    have B10 := hidden (Below.andThen B9.out hb10)
    have z10 := hb10.size
    clear B9 hb10
    go_wp2_with fail
    refine (drawCmds_v _ _ _ _ zs hl (HR.out.below B10.out) HBY.out hlb).mono ?_
    rintro e w11 ⟨gn2, gs2, pO, pD, pB, pK, aP, cP, ps, qO, qD, qB, qK, aQ, cQ, qs, rfl, hgeo, hc1, hc2, hl1, hl2, r1, r2, hb11⟩
    have B11 := hidden (Below.andThen B10.out hb11)
    have z11 := hb11.size
    clear B10 hb11
    have P11 := hidden (r1)
    have Q11 := hidden (r2)
    clear r1 r2
    have n3 : Below w11.heap.size w11 (((w11.alloc (.cells #[.int .i64 gn2, .int .i64 gs2] 25)).alloc (.cells #[.int .i64 pO, .int .i64 pD, .int .i64 pB, .int .i64 pK, .slice aP ps.length cP] 37)).alloc (.cells #[.int .i64 qO, .int .i64 qD, .int .i64 qB, .int .i64 qK, .slice aQ qs.length cQ] 37)) := ((new_below w11 _).alloc (by simp) _).alloc (by simp; omega) _
    have G2 := ((Box.new w11 25 #[.int .i64 gn2, .int .i64 gs2]).alloc (.cells #[.int .i64 pO, .int .i64 pD, .int .i64 pB, .int .i64 pK, .slice aP ps.length cP] 37)).alloc (.cells #[.int .i64 qO, .int .i64 qD, .int .i64 qB, .int .i64 qK, .slice aQ qs.length cQ] 37)
    have X2 : Box (((w11.alloc (.cells #[.int .i64 gn2, .int .i64 gs2] 25)).alloc (.cells #[.int .i64 pO, .int .i64 pD, .int .i64 pB, .int .i64 pK, .slice aP ps.length cP] 37)).alloc (.cells #[.int .i64 qO, .int .i64 qD, .int .i64 qB, .int .i64 qK, .slice aQ qs.length cQ] 37)) (w11.heap.size + 1) 37 #[.int .i64 pO, .int .i64 pD, .int .i64 pB, .int .i64 pK, .slice aP ps.length cP] := by
      have := (Box.new (w11.alloc (.cells #[.int .i64 gn2, .int .i64 gs2] 25)) 37 #[.int .i64 pO, .int .i64 pD, .int .i64 pB, .int .i64 pK, .slice aP ps.length cP]).alloc (.cells #[.int .i64 qO, .int .i64 qD, .int .i64 qB, .int .i64 qK, .slice aQ qs.length cQ] 37)
      rw [show (w11.alloc (.cells #[.int .i64 gn2, .int .i64 gs2] 25)).heap.size = w11.heap.size + 1 by simp] at this
      exact this
    have Y2 : Box (((w11.alloc (.cells #[.int .i64 gn2, .int .i64 gs2] 25)).alloc (.cells #[.int .i64 pO, .int .i64 pD, .int .i64 pB, .int .i64 pK, .slice aP ps.length cP] 37)).alloc (.cells #[.int .i64 qO, .int .i64 qD, .int .i64 qB, .int .i64 qK, .slice aQ qs.length cQ] 37)) (w11.heap.size + 1 + 1) 37 #[.int .i64 qO, .int .i64 qD, .int .i64 qB, .int .i64 qK, .slice aQ qs.length cQ] := by
      have := Box.new ((w11.alloc (.cells #[.int .i64 gn2, .int .i64 gs2] 25)).alloc (.cells #[.int .i64 pO, .int .i64 pD, .int .i64 pB, .int .i64 pK, .slice aP ps.length cP] 37)) 37 #[.int .i64 qO, .int .i64 qD, .int .i64 qB, .int .i64 qK, .slice aQ qs.length cQ]
      rw [show ((w11.alloc (.cells #[.int .i64 gn2, .int .i64 gs2] 25)).alloc (.cells #[.int .i64 pO, .int .i64 pD, .int .i64 pB, .int .i64 pK, .slice aP ps.length cP] 37)).heap.size = w11.heap.size + 1 + 1 by simp] at this
      exact this
    have hz3 : w11.heap.size + 3 ≤ (((w11.alloc (.cells #[.int .i64 gn2, .int .i64 gs2] 25)).alloc (.cells #[.int .i64 pO, .int .i64 pD, .int .i64 pB, .int .i64 pK, .slice aP ps.length cP] 37)).alloc (.cells #[.int .i64 qO, .int .i64 qD, .int .i64 qB, .int .i64 qK, .slice aQ qs.length cQ] 37)).heap.size := by simp
    have B12 := hidden (Below.andThen B11.out n3)
    have P12 := hidden (P11.out.below n3)
    have Q12 := hidden (Q11.out.below n3)
    have z12 := n3.size
    clear B11 P11 Q11 n3
    have HC := hidden (And.intro hgeo (And.intro hc1 hc2))
    clear hgeo hc1 hc2
    go_wp2_with fail
    generalize (((w11.alloc (.cells #[.int .i64 gn2, .int .i64 gs2] 25)).alloc (.cells #[.int .i64 pO, .int .i64 pD, .int .i64 pB, .int .i64 pK, .slice aP ps.length cP] 37)).alloc (.cells #[.int .i64 qO, .int .i64 qD, .int .i64 qB, .int .i64 qK, .slice aQ qs.length cQ] 37)) = w12 at G2 X2 Y2 B12 P12 Q12 z12 hz3 ⊢
    generalize hXB : w11.heap.size + 1 = XB at X2 Y2 ⊢
    generalize hYB : XB + 1 = YB at Y2 ⊢
    generalize hGB : w11.heap.size = GB at G2 hz3 hXB ⊢
    have lt3 : GB < w12.heap.size ∧ XB < w12.heap.size ∧ YB < w12.heap.size := by omega
    clear hXB hYB hGB hz3
    obtain ⟨lt1, lt2, lt3⟩ := lt3
    have G12 := hidden G2
    have X12 := hidden X2
    have Y12 := hidden Y2
    clear G2 X2 Y2
    obtain ⟨g0, g1⟩ := G12.out.cells2
    obtain ⟨x0, x1, x2, x3, x4⟩ := X12.out.cells5
    obtain ⟨y0, y1, y2, y3, y4⟩ := Y12.out.cells5
    go_wp2_with fail
    refine (implClash_any _ gn2 gs2 pO pD pB pK _ _ _ ps qO qD qB qK _ _ _ qs rfl (ints_rd P12.out).1 (by omega) rfl (ints_rd Q12.out).1 (by omega)).mono ?_
    rintro e w13 ⟨rfl, hb13⟩
    clear g0 g1 x0 x1 x2 x3 x4 y0 y1 y2 y3 y4
    have B13 := hidden (Below.andThen B12.out hb13)
    have P13 := hidden (P12.out.below hb13)
    have Q13 := hidden (Q12.out.below hb13)
    have G13 := hidden (G12.out.below hb13 (by omega))
    have X13 := hidden (X12.out.below hb13 (by omega))
    have Y13 := hidden (Y12.out.below hb13 (by omega))
    have z13 := hb13.size
    clear B12 P12 Q12 G12 X12 Y12 hb13
    obtain ⟨M, hM⟩ : ∃ M, metC (spanC gn2 gs2 pO pD pB pK ps) (spanC gn2 gs2 qO qD qB qK qs) = M := ⟨_, rfl⟩
    rw [hM]
    have HM := hidden hM
    clear hM
    cases M
    rotate_left
    · skip
      obtain ⟨g0, g1⟩ := G13.out.cells2
      obtain ⟨x0, x1, x2, x3, x4⟩ := X13.out.cells5
      obtain ⟨y0, y1, y2, y3, y4⟩ := Y13.out.cells5
      go_wp2_with fail
      refine (specClash_any _ gn2 gs2 pO pD pB pK _ _ _ ps qO qD qB qK _ _ _ qs rfl (ints_rd P13.out).1 (by omega) rfl (ints_rd Q13.out).1 (by omega)).mono ?_
      rintro e w14 ⟨rfl, hb14⟩
      clear g0 g1 x0 x1 x2 x3 x4 y0 y1 y2 y3 y4
      have B14 := hidden (Below.andThen B13.out hb14)
      have P14 := hidden (P13.out.below hb14)
      have Q14 := hidden (Q13.out.below hb14)
      have G14 := hidden (G13.out.below hb14 (by omega))
      have X14 := hidden (X13.out.below hb14 (by omega))
      have Y14 := hidden (Y13.out.below hb14 (by omega))
      have z14 := hb14.size
      clear B13 P13 Q13 G13 X13 Y13 hb14
      rw [HM.out]
      go_wp2
      go_ret
      exact ⟨rfl, B14.out⟩
    obtain ⟨L, dA, cA, zA, dB, cB, zB, hx1, hx2, hA6, hB6⟩ := doS_two HC.out.1 HC.out.2.1 HC.out.2.2 HM.out
    have HX1 := hidden hx1
    have HX2 := hidden hx2
    clear hx1 hx2
    have HW1 : Hid (wttCmdS [(pO, pD, pB, pK, ps), (qO, qD, qB, qK, qs)] ≤ 1048576) := by
      show 2 + (ps.length + (qs.length + 0)) ≤ 1048576
      omega
    have HW2 : Hid (wttCmdS [(qO, qD, qB, qK, qs), (pO, pD, pB, pK, ps)] ≤ 1048576) := by
      show 2 + (qs.length + (ps.length + 0)) ≤ 1048576
      omega
    obtain ⟨g0, g1⟩ := G13.out.cells2
    obtain ⟨x0, x1, x2, x3, x4⟩ := X13.out.cells5
    obtain ⟨y0, y1, y2, y3, y4⟩ := Y13.out.cells5
    go_wp2_with fail
    refine (implZeros_any _ gn2 gs2).mono ?_
    rintro e w14 ⟨az, nz, cz, rfl, oz, hb14⟩
    clear g0 g1 x0 x1 x2 x3 x4 y0 y1 y2 y3 y4
    have B14 := hidden (Below.andThen B13.out hb14)
    have P14 := hidden (P13.out.below hb14)
    have Q14 := hidden (Q13.out.below hb14)
    have G14 := hidden (G13.out.below hb14 (by omega))
    have X14 := hidden (X13.out.below hb14 (by omega))
    have Y14 := hidden (Y13.out.below hb14 (by omega))
    have z14 := hb14.size
    clear B13 P13 Q13 G13 X13 Y13 hb14
    have Z14 := hidden (oz.rd)
    have hzl := (row_length oz.rd).1
    have hz32 := zerosC_le gn2 gs2
    have hnz : nz ≤ 32 := by rw [hzl] at hz32; exact hz32
    clear oz hzl hz32
    obtain ⟨g0, g1⟩ := G14.out.cells2
    obtain ⟨x0, x1, x2, x3, x4⟩ := X14.out.cells5
    obtain ⟨y0, y1, y2, y3, y4⟩ := Y14.out.cells5
    have R15 : Hid ((tCmdS 37).Rd (w14.alloc (.cells #[.int .i64 pO, .int .i64 pD, .int .i64 pB, .int .i64 pK, .slice aP ps.length cP, .int .i64 qO, .int .i64 qD, .int .i64 qB, .int .i64 qK, .slice aQ qs.length cQ] 37)) [.slice (some ⟨w14.heap.size, 0, none⟩) 2 2] [(pO, pD, pB, pK, ps), (qO, qD, qB, qK, qs)]) := lit2_rd (t := tCmd) (int_rd_of (int_rd_of (int_rd_of (int_rd_of P14.out)))) (int_rd_of (int_rd_of (int_rd_of (int_rd_of Q14.out)))) #[.int .i64 pO, .int .i64 pD, .int .i64 pB, .int .i64 pK, .slice aP ps.length cP, .int .i64 qO, .int .i64 qD, .int .i64 qB, .int .i64 qK, .slice aQ qs.length cQ] rfl
    have nw := new_below w14 (.cells #[.int .i64 pO, .int .i64 pD, .int .i64 pB, .int .i64 pK, .slice aP ps.length cP, .int .i64 qO, .int .i64 qD, .int .i64 qB, .int .i64 qK, .slice aQ qs.length cQ] 37)
    have B15 := hidden (Below.andThen B14.out nw)
    have P15 := hidden (P14.out.below nw)
    have Q15 := hidden (Q14.out.below nw)
    have G15 := hidden (G14.out.below nw (by omega))
    have X15 := hidden (X14.out.below nw (by omega))
    have Y15 := hidden (Y14.out.below nw (by omega))
    have Z15 := hidden (Z14.out.below nw)
    have z15 := nw.size
    clear B14 P14 Q14 G14 X14 Y14 Z14 nw
    go_wp2_with fail
    generalize w14.alloc (.cells #[.int .i64 pO, .int .i64 pD, .int .i64 pB, .int .i64 pK, .slice aP ps.length cP, .int .i64 qO, .int .i64 qD, .int .i64 qB, .int .i64 qK, .slice aQ qs.length cQ] 37) = w15 at B15 P15 Q15 G15 X15 Y15 Z15 z15 R15 ⊢
    clear g0 g1 x0 x1 x2 x3 x4 y0 y1 y2 y3 y4
    refine (implDoCmds_v _ 37 gn2 gs2 _ _ _ (zerosC gn2 gs2) Z15.out (by omega) _ _ _ [(pO, pD, pB, pK, ps), (qO, qD, qB, qK, qs)] R15.out HW1.out HX1.out rfl).mono ?_
    rintro e w16 ⟨mid16, am, cm, be, de, rfl, om, oe, _, _, hb16⟩
    clear R15
    have B16 := hidden (Below.andThen B15.out hb16)
    have P16 := hidden (P15.out.below hb16)
    have Q16 := hidden (Q15.out.below hb16)
    have G16 := hidden (G15.out.below hb16 (by omega))
    have X16 := hidden (X15.out.below hb16 (by omega))
    have Y16 := hidden (Y15.out.below hb16 (by omega))
    have Z16 := hidden (Z15.out.below hb16)
    have z16 := hb16.size
    clear B15 P15 Q15 G15 X15 Y15 Z15 hb16
    have M16 := hidden (om.rd)
    have E16 := hidden (oe.rd)
    clear om oe
    obtain ⟨g0, g1⟩ := G16.out.cells2
    obtain ⟨x0, x1, x2, x3, x4⟩ := X16.out.cells5
    obtain ⟨y0, y1, y2, y3, y4⟩ := Y16.out.cells5
    have R17 : Hid ((tCmdS 37).Rd (w16.alloc (.cells #[.int .i64 qO, .int .i64 qD, .int .i64 qB, .int .i64 qK, .slice aQ qs.length cQ, .int .i64 pO, .int .i64 pD, .int .i64 pB, .int .i64 pK, .slice aP ps.length cP] 37)) [.slice (some ⟨w16.heap.size, 0, none⟩) 2 2] [(qO, qD, qB, qK, qs), (pO, pD, pB, pK, ps)]) := lit2_rd (t := tCmd) (int_rd_of (int_rd_of (int_rd_of (int_rd_of Q16.out)))) (int_rd_of (int_rd_of (int_rd_of (int_rd_of P16.out)))) #[.int .i64 qO, .int .i64 qD, .int .i64 qB, .int .i64 qK, .slice aQ qs.length cQ, .int .i64 pO, .int .i64 pD, .int .i64 pB, .int .i64 pK, .slice aP ps.length cP] rfl
    have nw := new_below w16 (.cells #[.int .i64 qO, .int .i64 qD, .int .i64 qB, .int .i64 qK, .slice aQ qs.length cQ, .int .i64 pO, .int .i64 pD, .int .i64 pB, .int .i64 pK, .slice aP ps.length cP] 37)
    have B17 := hidden (Below.andThen B16.out nw)
    have P17 := hidden (P16.out.below nw)
    have Q17 := hidden (Q16.out.below nw)
    have G17 := hidden (G16.out.below nw (by omega))
    have X17 := hidden (X16.out.below nw (by omega))
    have Y17 := hidden (Y16.out.below nw (by omega))
    have Z17 := hidden (Z16.out.below nw)
    have M17 := hidden (M16.out.below nw)
    have E17 := hidden (E16.out.below nw)
    have z17 := nw.size
    clear B16 P16 Q16 G16 X16 Y16 Z16 M16 E16 nw
    go_wp2_with fail
    generalize w16.alloc (.cells #[.int .i64 qO, .int .i64 qD, .int .i64 qB, .int .i64 qK, .slice aQ qs.length cQ, .int .i64 pO, .int .i64 pD, .int .i64 pB, .int .i64 pK, .slice aP ps.length cP] 37) = w17 at B17 P17 Q17 G17 X17 Y17 Z17 M17 E17 z17 R17 ⊢
    clear g0 g1 x0 x1 x2 x3 x4 y0 y1 y2 y3 y4
    refine (implDoCmds_v _ 37 gn2 gs2 _ _ _ (zerosC gn2 gs2) Z17.out (by omega) _ _ _ [(qO, qD, qB, qK, qs), (pO, pD, pB, pK, ps)] R17.out HW2.out HX2.out rfl).mono ?_
    rintro e w18 ⟨mid18, an, cn, bf, df, rfl, om, oe, _, _, hb18⟩
    clear R17
    have B18 := hidden (Below.andThen B17.out hb18)
    have P18 := hidden (P17.out.below hb18)
    have Q18 := hidden (Q17.out.below hb18)
    have G18 := hidden (G17.out.below hb18 (by omega))
    have X18 := hidden (X17.out.below hb18 (by omega))
    have Y18 := hidden (Y17.out.below hb18 (by omega))
    have Z18 := hidden (Z17.out.below hb18)
    have M18 := hidden (M17.out.below hb18)
    have E18 := hidden (E17.out.below hb18)
    have z18 := hb18.size
    clear B17 P17 Q17 G17 X17 Y17 Z17 M17 E17 hb18
    have N18 := hidden (om.rd)
    have F18 := hidden (oe.rd)
    clear om oe
    go_wp2_with fail
    obtain ⟨zE, e6, l6, e7, l7, c0, c1, c2, c3, c4, c5, rA, rB⟩ := ans2_cells E18.out
    obtain ⟨zF, f6, m6, f7, m7, t0, t1, t2, t3, t4, t5, sB, sA⟩ := ans2_cells F18.out
    have RA := hidden rA
    have RB := hidden rB
    have SA := hidden sA
    have SB := hidden sB
    clear rA rB sA sB
    have q0 : Below w18.heap.size w18 w18.drew := (Below.refl _ _).drew
    go_region_held3 (fun w' => w'.cell? ⟨be, 0, none⟩ = some (.int .i64 dA) ∧ w'.cell? ⟨be, 1, none⟩ = some (.int .i64 cA) ∧ w'.cell? ⟨be, 2, none⟩ = some (.slice e6 zA.length l6) ∧ w'.cell? ⟨be, 3, none⟩ = some (.int .i64 dB) ∧ w'.cell? ⟨be, 4, none⟩ = some (.int .i64 cB) ∧ w'.cell? ⟨be, 5, none⟩ = some (.slice e7 zB.length l7) ∧ w'.cell? ⟨bf, 0, none⟩ = some (.int .i64 dB) ∧ w'.cell? ⟨bf, 1, none⟩ = some (.int .i64 cB) ∧ w'.cell? ⟨bf, 2, none⟩ = some (.slice f6 zB.length m6) ∧ w'.cell? ⟨bf, 3, none⟩ = some (.int .i64 dA) ∧ w'.cell? ⟨bf, 4, none⟩ = some (.int .i64 cA) ∧ w'.cell? ⟨bf, 5, none⟩ = some (.slice f7 zA.length m7))
      (first | (exact ⟨(q3.cell (p := ⟨be, 0, none⟩) zE).trans c0, (q3.cell (p := ⟨be, 1, none⟩) zE).trans c1, (q3.cell (p := ⟨be, 2, none⟩) zE).trans c2, (q3.cell (p := ⟨be, 3, none⟩) zE).trans c3, (q3.cell (p := ⟨be, 4, none⟩) zE).trans c4, (q3.cell (p := ⟨be, 5, none⟩) zE).trans c5, (q3.cell (p := ⟨bf, 0, none⟩) zF).trans t0, (q3.cell (p := ⟨bf, 1, none⟩) zF).trans t1, (q3.cell (p := ⟨bf, 2, none⟩) zF).trans t2, (q3.cell (p := ⟨bf, 3, none⟩) zF).trans t3, (q3.cell (p := ⟨bf, 4, none⟩) zF).trans t4, (q3.cell (p := ⟨bf, 5, none⟩) zF).trans t5⟩) | (exact ⟨(q2.cell (p := ⟨be, 0, none⟩) zE).trans c0, (q2.cell (p := ⟨be, 1, none⟩) zE).trans c1, (q2.cell (p := ⟨be, 2, none⟩) zE).trans c2, (q2.cell (p := ⟨be, 3, none⟩) zE).trans c3, (q2.cell (p := ⟨be, 4, none⟩) zE).trans c4, (q2.cell (p := ⟨be, 5, none⟩) zE).trans c5, (q2.cell (p := ⟨bf, 0, none⟩) zF).trans t0, (q2.cell (p := ⟨bf, 1, none⟩) zF).trans t1, (q2.cell (p := ⟨bf, 2, none⟩) zF).trans t2, (q2.cell (p := ⟨bf, 3, none⟩) zF).trans t3, (q2.cell (p := ⟨bf, 4, none⟩) zF).trans t4, (q2.cell (p := ⟨bf, 5, none⟩) zF).trans t5⟩) | (exact ⟨(q1.cell (p := ⟨be, 0, none⟩) zE).trans c0, (q1.cell (p := ⟨be, 1, none⟩) zE).trans c1, (q1.cell (p := ⟨be, 2, none⟩) zE).trans c2, (q1.cell (p := ⟨be, 3, none⟩) zE).trans c3, (q1.cell (p := ⟨be, 4, none⟩) zE).trans c4, (q1.cell (p := ⟨be, 5, none⟩) zE).trans c5, (q1.cell (p := ⟨bf, 0, none⟩) zF).trans t0, (q1.cell (p := ⟨bf, 1, none⟩) zF).trans t1, (q1.cell (p := ⟨bf, 2, none⟩) zF).trans t2, (q1.cell (p := ⟨bf, 3, none⟩) zF).trans t3, (q1.cell (p := ⟨bf, 4, none⟩) zF).trans t4, (q1.cell (p := ⟨bf, 5, none⟩) zF).trans t5⟩) | (exact ⟨c0, c1, c2, c3, c4, c5, t0, t1, t2, t3, t4, t5⟩) | go_keep)
      (first | (have gq := q2; clear gq; go_at_call 17; refine (sameAns_same _ dB cB _ _ _ _ _ zB (by exact RB.out.below q2) (by exact SB.out.below q2) (by omega)).mono ?_; rintro e w21 ⟨rfl, p3⟩; have q3 : Below w18.heap.size w18 w21 := Below.andThen q2 p3) | (have gq := q1; clear gq; go_at_call 17; refine (sameAns_same _ dA cA _ _ _ _ _ zA (by exact RA.out.below q1) (by exact SA.out.below q1) (by omega)).mono ?_; rintro e w20 ⟨rfl, p2⟩; have q2 : Below w18.heap.size w18 w20 := Below.andThen q1 p2) | (have gq := q0; clear gq; go_at_call 11; refine (sameInts_refl _ _ _ _ _ _ L (by exact M18.out.below q0) (by exact N18.out.below q0) (by omega)).mono ?_; rintro e w19 ⟨rfl, p1⟩; have q1 : Below w18.heap.size w18 w19 := Below.andThen q0 p1))
    have hb21 := q3
    clear E18
    clear F18
    clear M18
    clear N18
    clear Z18
    clear P18
    clear Q18
    clear G18
    clear X18
    clear Y18
    have B21 := hidden (Below.andThen B18.out hb21)
    have z21 := hb21.size
    clear B18 hb21
    go_wp2
    go_ret
    exact ⟨rfl, B21.out⟩

end Go.Proofs.Ytgjomldcnjjpaaa

namespace Go.Proofs.Ytgjomldcnjjpaaa.fnModels
open Go.ChangeShapes Go.WideShapes Go.ChangeAt Go.RowKit
open Go.ChangeMaps (open_string shut_string)
set_option linter.unusedVariables false

theorem own : ownKnob Try.prog.godebug = none := by kernel_rfl
theorem laidOut : laidOutB Try.prog = true := by kernel_rfl

theorem walk (a0 : Option Addr) (len0 cap0 : Nat) (z0 : List Int) (w : World) (w0 : IsRow .u8 w a0 len0 cap0 z0) :
    Calls Try.prog 3 #[.slice a0 len0 cap0] w fun e w' => e = .returned (.bool true) ∧ Below w.heap.size w w' := by
  exact fnModels_walk a0 len0 cap0 z0 w w0

set_option maxRecDepth 100000 in
theorem lifted (os : Os) (started : os.Started) (H : Type) (enc : TypeId × Value → H) :
    ReturnsInHanded {} Try.checked os 3 .any (Rows.fnModelsSpec.pre6 enc Try.prog Try.f3 Rows.fnModelsRow.domain false) (Rows.fnModelsSpec.post enc Try.prog Try.f3 false true false false) := by
  refine returnsInHanded_of_change (C := Try.checked) own started (by kernel_rfl) Try.func3
    (ChangeSpec.witness6 (enc := enc) (C := Try.checked) false ⟨#[], #[.slice none 0 0], []⟩ 8 (by kernel_rfl) (by kernel_rfl) (by kernel_rfl) (by kernel_rfl)) ?_
  intro W base args ds gs before hval0 hW hcnd _
  have hval : ∀ (j : Nat) t v, Try.f3.params[j]? = some t → args[j]? = some v → Value.okWide Try.prog W .any base t v := hval0
  have hW' := hW
  obtain ⟨p, q, hA0, hV, rfl, hfz, hnd⟩ := hW
  have hA : DataW.TrodAll enc Try.prog W 0 (fun _ => true) true Try.f3.params.toList args.toList ds p := hA0
  rw [Try.params3] at hA hval
  obtain ⟨v0, vs0, d0, ds0, p0, q0, hargs, rfl, rfl, h0, r0⟩ := trodAll_cons hA
  obtain ⟨rfl, rfl, rfl⟩ := trodAll_nil r0
  obtain rfl : args = #[v0] := by cases args; simp_all
  obtain ⟨rfl, rfl⟩ := trodVars_none hV
  obtain ⟨a0, len0, cap0, rfl⟩ := okWide_slice Try.underlying22 (hval 0 22 v0 rfl rfl)
  have k0 := h0
  have lt0 : ∀ x ∈ p0, x.block < W.heap.size := by obtain ⟨m, hm⟩ := k0; exact DataW.trod_lt m _ _ _ hm
  obtain ⟨z0, w0⟩ : ∃ zs, IsRow .u8 W a0 len0 cap0 zs := by
    obtain ⟨fuel, hf⟩ := h0
    rcases open_ints Try.underlying22 Try.underlying5 (by kernel_rfl) hf with ⟨hcs, _⟩ | ⟨x, l, c, zs, hcs, _, hl, hm, hz, _, hcell, hwz⟩
    · simp [Value.cells] at hcs
      obtain ⟨rfl, rfl, rfl⟩ := hcs
      exact ⟨[], .inl ⟨rfl, rfl, rfl, rfl⟩⟩
    · simp [Value.cells] at hcs
      obtain ⟨rfl, rfl, rfl⟩ := hcs
      exact ⟨zs, .inr ⟨_, rfl, hl, hm, by simpa using hz, hcell, hwz⟩⟩
  clear hA0 hval0
  refine (walk a0 len0 cap0 z0 W w0).mono fun e W' ⟨he, bel⟩ => ?_
  subst he
  exact ⟨_, rfl, _, _, _, [], _, [], hW', trodAll_mk1 (shut_bool Try.underlying4 _), (trodAll_cons_mk (Below.trod laidOut (by kernel_rfl) (of_decide_eq_true (by kernel_rfl)) k0 bel lt0) trodAll_mk0), rfl, bel.frame _, fun h => by cases h⟩

theorem over : Rows.fnModelsRow.holds Try.pinned (OpenSpec.ofChange Rows.fnModelsSpec) :=
  OpenClaim.holds_of_wide 3 Try.f3 rfl rfl rfl rfl rfl rfl rfl ⟨rfl, rfl, rfl, rfl, rfl⟩ rfl rfl rfl rfl rfl (by kernel_rfl) Try.func3 (by kernel_rfl)
    (of_decide_eq_true (by kernel_rfl)) (by unfold Func.isWrapper; first | (rw [if_pos (by decide +kernel)]; kernel_rfl) | (rw [if_neg (by decide +kernel)]; exact ⟨rfl, rfl⟩))
    (fun os started H enc _ => lifted os started H enc)

end Go.Proofs.Ytgjomldcnjjpaaa.fnModels

namespace Go.Proofs.Ytgjomldcnjjpaaa
/-- The given statement. -/
theorem fnModels_holds : Rows.FnModelsSaid := fnModels.over
#print axioms fnModels_holds
end Go.Proofs.Ytgjomldcnjjpaaa
