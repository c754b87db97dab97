/-
  The walk of the exact law of Zeros: for every Geo it answers true, and nothing that was there has turned. No condition.
-/
import Derived.Test.YtgjomldcnjjpaaaWalkZeros14
import Derived.Test.YtgjomldcnjjpaaaWalkToGeo
import Derived.Test.YtgjomldcnjjpaaaWalkMark
import Derived.Test.YtgjomldcnjjpaaaOwnLen
namespace Go.Proofs.Ytgjomldcnjjpaaa
open Go.RowKit

set_option maxRecDepth 20000 in
set_option maxHeartbeats 4000000 in
theorem fnExactZeros_walk (gn gs : Int) (w : World) :
    Calls Try.prog 4 #[.agg #[.int .i64 gn, .int .i64 gs]] w fun e w' => e = .returned (.bool true) ∧ Below w.heap.size w w' := by
  have hgl := zerosC_le gn gs
  generalize hP : zerosC gn gs = ps at hgl
  generalize hn : ps.length = pl at hgl
  have HP := hidden hP
  have HN := hidden hn
  clear hP hn
  have hd : decide (ps = ps) = true := by simp
  have hA := new_below w (.cells #[.int .i64 gn, .int .i64 gs] 45)
  have xG := Box.new w 45 #[.int .i64 gn, .int .i64 gs]
  have z0 := xG.lt
  have B0 := hidden hA
  have BG0 := hidden xG
  clear hA xG
  go_enter Try.func4, Try.ntmps4
  obtain ⟨l0, l1⟩ := BG0.out.cells2
  go_wp2_with fail
  generalize w.alloc (.cells #[.int .i64 gn, .int .i64 gs] 45) = w0 at B0 BG0 z0 l0 l1 ⊢
  refine (toGeo_any _ _ _).mono ?_
  rintro e w1 ⟨rfl, hb1⟩
  clear l0 l1
  have B1 := hidden (Below.andThen B0.out hb1)
  have BG1 := hidden (BG0.out.below hb1 (by omega))
  have z1 := hb1.size
  clear B0 BG0 hb1
  go_wp2_with fail
  refine (specZeros_any _ gn gs).mono ?_
  rintro e w2 ⟨a2, l2, c2, rfl, o2, hb2⟩
  obtain ⟨rfl, o2'⟩ := own_len2 o2 HP.out HN.out
  clear o2
  have B2 := hidden (Below.andThen B1.out hb2)
  have BG2 := hidden (BG1.out.below hb2 (by omega))
  have z2 := hb2.size
  clear B1 BG1 hb2
  have W2 := hidden o2'
  clear o2'
  obtain ⟨l0, l1⟩ := BG2.out.cells2
  go_wp2_with fail
  refine (toGeo_any _ _ _).mono ?_
  rintro e w3 ⟨rfl, hb3⟩
  clear l0 l1
  have B3 := hidden (Below.andThen B2.out hb3)
  have BG3 := hidden (BG2.out.below hb3 (by omega))
  have W3 := hidden (W2.out.below hb3)
  have z3 := hb3.size
  clear B2 BG2 W2 hb3
  go_wp2_with fail
  refine (implZeros_any _ gn gs).mono ?_
  rintro e w4 ⟨a4, l4, c4, rfl, o4, hb4⟩
  obtain ⟨rfl, o4'⟩ := own_len2 o4 HP.out HN.out
  clear o4
  have B4 := hidden (Below.andThen B3.out hb4)
  have BG4 := hidden (BG3.out.below hb4 (by omega))
  have W4 := hidden (W3.out.below hb4)
  have z4 := hb4.size
  clear B3 BG3 W3 hb4
  have G4 := hidden o4'
  clear o4'
  go_wp2_with fail
  refine (eqIntS_any _ _ _ _ _ _ _ ps ps HN.out HN.out (ints_rd G4.out.rd).1 (ints_rd W4.out.rd).1 (by omega)).mono ?_
  rintro e w5 ⟨rfl, hs5⟩
  have B5 := hidden (Below.andSame B4.out hs5)
  have BG5 := hidden (BG4.out.same hs5)
  have W5 := hidden (W4.out.same hs5)
  have G5 := hidden (G4.out.same hs5)
  have z5 := Nat.le_of_eq hs5.size.symm
  clear B4 BG4 W4 G4 hs5
  go_wp2_with fail
  obtain ⟨fpG, mG, rG⟩ := G5.out.mine
  refine (markIntS_fp _ _ _ _ ps _ fpG mG (by omega) (by omega) (by omega)).mono ?_
  rintro e w6 ⟨rfl, m12, t12⟩
  clear G5
  have hb6 := t12.but rG
  have g12 := m12.own rG
  clear mG m12 t12 rG
  have B6 := hidden (Below.andBut B5.out hb6 (by omega))
  have BG6 := hidden (BG5.out.kept (hb6.block _ (by omega) (by omega)))
  have W6 := hidden (W5.out.but hb6 (by omega))
  have z6 := hb6.size
  clear B5 BG5 W5 hb6
  have G6 := hidden g12
  clear g12
  go_wp2_with fail
  refine (heldIntS_any _ _ _ _ _ (ints_rd G6.out.rd).1 (by omega) (by omega) (by omega)).mono ?_
  rintro e w7 ⟨rfl, hs7⟩
  have B7 := hidden (Below.andSame B6.out hs7)
  have BG7 := hidden (BG6.out.same hs7)
  have W7 := hidden (W6.out.same hs7)
  have G7 := hidden (G6.out.same hs7)
  have z7 := Nat.le_of_eq hs7.size.symm
  clear B6 BG6 W6 G6 hs7
  obtain ⟨l0, l1⟩ := BG7.out.cells2
  go_wp2_with fail
  refine (toGeo_any _ _ _).mono ?_
  rintro e w8 ⟨rfl, hb8⟩
  clear l0 l1
  have B8 := hidden (Below.andThen B7.out hb8)
  have BG8 := hidden (BG7.out.below hb8 (by omega))
  have W8 := hidden (W7.out.below hb8)
  have G8 := hidden (G7.out.below hb8)
  have z8 := hb8.size
  clear B7 BG7 W7 G7 hb8
  go_wp2_with fail
  refine (implZeros_any _ gn gs).mono ?_
  rintro e w9 ⟨a9, l9, c9, rfl, o9, hb9⟩
  obtain ⟨rfl, o9'⟩ := own_len2 o9 HP.out HN.out
  clear o9
  have B9 := hidden (Below.andThen B8.out hb9)
  have BG9 := hidden (BG8.out.below hb9 (by omega))
  have W9 := hidden (W8.out.below hb9)
  have G9 := hidden (G8.out.below hb9)
  have z9 := hb9.size
  clear B8 BG8 W8 G8 hb9
  have H9 := hidden o9'
  clear o9'
  go_wp2_with fail
  refine (eqIntS_any _ _ _ _ _ _ _ ps ps HN.out HN.out (ints_rd H9.out.rd).1 (ints_rd W9.out.rd).1 (by omega)).mono ?_
  rintro e w10 ⟨rfl, hs10⟩
  have B10 := hidden (Below.andSame B9.out hs10)
  have BG10 := hidden (BG9.out.same hs10)
  have W10 := hidden (W9.out.same hs10)
  have G10 := hidden (G9.out.same hs10)
  have H10 := hidden (H9.out.same hs10)
  have z10 := Nat.le_of_eq hs10.size.symm
  clear B9 BG9 W9 G9 H9 hs10
  clear H10
  clear W10
  go_wp2_with fail
  refine (heldIntS_any _ _ _ _ _ (ints_rd G10.out.rd).1 (by omega) (by omega) (by omega)).mono ?_
  rintro e w11 ⟨rfl, hs11⟩
  have B11 := hidden (Below.andSame B10.out hs11)
  have BG11 := hidden (BG10.out.same hs11)
  have G11 := hidden (G10.out.same hs11)
  have z11 := Nat.le_of_eq hs11.size.symm
  clear B10 BG10 G10 hs11
  go_wp2
  go_ret
  exact ⟨rfl, B11.out⟩

end Go.Proofs.Ytgjomldcnjjpaaa
