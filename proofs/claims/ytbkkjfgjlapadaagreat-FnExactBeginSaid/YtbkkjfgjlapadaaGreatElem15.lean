/-
  The laws' helpers over one answer, one job and one turn: what is left of a bound, the copy, the comparison of two that read alike. Conditions: at most 1048576 words (2097152 for the comparison).
-/
import Derived.Test.YtbkkjfgjlapadaaGreatSeal15
import Derived.Test.YtbkkjfgjlapadaaGreatWalkCmd
import Derived.Test.YtbkkjfgjlapadaaGreatAnsLaw14
import Derived.Test.YtbkkjfgjlapadaaGreatWalkSz
namespace Go.Proofs.YtbkkjfgjlapadaaGreat
open Go.RowKit

abbrev tJob : Ty := pairTy intTy (pairTy intTy (pairTy intTy (pairTy intTy (pairTy tIntS (pairTy intTy (pairTy tIntS (intTy)))))))
abbrev tTurn : Ty := pairTy intTy (pairTy intTy (pairTy intTy (pairTy intTy (pairTy tIntS (pairTy intTy (pairTy intTy (tIntS)))))))
abbrev JobD := Int × Int × Int × Int × List Int × Int × List Int × Int
abbrev TurnD := Int × Int × Int × Int × List Int × Int × Int × List Int
abbrev tJobS (E : TypeId) : Ty := rowTy tJob E
abbrev tTurnS (E : TypeId) : Ty := rowTy tTurn E
theorem Box.cells3e {w : World} {B : Nat} {T : TypeId} {v0 v1 v2 : Value} (h : Box w B T #[v0, v1, v2]) : w.cell? ⟨B, 0, none⟩ = some v0 ∧ w.cell? ⟨B, 1, none⟩ = some v1 ∧ w.cell? ⟨B, 2, none⟩ = some v2 := ⟨h.cell 0, h.cell 1, h.cell 2⟩

set_option maxHeartbeats 1600000 in
theorem szAns_any (w : World) (d1 q1 : Int) (a0 : Option Addr) (n0 c0 : Nat) (left : Int) (hn0 : n0 ≤ 9223372036854775807) (h0 : 0 ≤ left) (h1 : left ≤ 1048576) :
    Calls Tryz.prog 165 #[.agg #[.int .i64 d1, .int .i64 q1, .slice a0 n0 c0], .int .i64 left] w fun e w' => e = .returned (.int .i64 (leftOf left (n0))) ∧ Below w.heap.size w w' := by
  by_cases h : (n0 : Int) ≤ left
  · have hq := leftOf_pos h
    go_enter Tryz.func165, Tryz.ntmps165
    go_wp2_with fail
    refine (szIntS_any _ _ _ _ _ hn0 (by omega) (by omega)).mono ?_
    rintro e w1 ⟨rfl, rfl⟩
    go_wp2
    go_ret
    exact ⟨ret_int (by omega), new_below _ _⟩
  · have hq := leftOf_neg (left := left) (wt := n0) (by omega)
    go_enter Tryz.func165, Tryz.ntmps165
    go_wp2_with fail
    refine (szIntS_any _ _ _ _ _ hn0 (by omega) (by omega)).mono ?_
    rintro e w1 ⟨rfl, rfl⟩
    go_wp2
    go_ret
    exact ⟨ret_int (by omega), new_below _ _⟩

set_option maxHeartbeats 3200000 in
theorem toAns_any (w : World) (d1 q1 : Int) (a0 : Option Addr) (c0 : Nat) (zs : List Int) (r0 : tIntS.Rd w [.slice a0 zs.length c0] zs) (hw : zs.length ≤ 1048576) :
    Calls Tryz.prog 171 #[.agg #[.int .i64 d1, .int .i64 q1, .slice a0 zs.length c0]] w fun e w' => ∃ g0, e = .returned (.agg #[.int .i64 d1, .int .i64 q1, .slice (some ⟨g0, 0, none⟩) zs.length zs.length]) ∧ tAns.Own w' w.heap.size w'.heap.size [.int .i64 d1, .int .i64 q1, .slice (some ⟨g0, 0, none⟩) zs.length zs.length] (d1, q1, zs) ∧ Below w.heap.size w w' := by
  go_enter Tryz.func171, Tryz.ntmps171
  go_wp2_with fail
  refine seal_new3 ?_
  intro V A R O hA
  have zv := O.lt
  have B := hA
  refine (toIntS_new _ _ _ zs (r0.below B) (by omega)).mono ?_
  rintro e w1 ⟨g0, rfl, y0, b⟩
  have A := A.below b A.lt
  have R := R.below b R.lt
  have O := O.below b O.lt
  have B := Below.andThen B b
  have z1 := b.size
  obtain ⟨k0, k1, k2⟩ := A.cells3e
  obtain ⟨o0, o1, o2⟩ := O.cells3e
  have fo := O.frozen
  obtain ⟨x0, x1, x2⟩ := R.cells3e
  have fr := R.frozen
  have la := A.lt
  have lo := O.lt
  clear A R O b
  go_wp2
  have hbt := (But.cells (lo := w.heap.size + 1) (hi := w.heap.size + 1 + 1 + 1) (g := w.heap.size + 1 + 1) (by omega) (by omega) [.slice (some ⟨g0, 0, none⟩) zs.length zs.length] 2 w1).trans (But.cells (lo := w.heap.size + 1) (hi := w.heap.size + 1 + 1 + 1) (g := w.heap.size + 1) (by omega) (by omega) [.int .i64 d1, .int .i64 q1, .slice (some ⟨g0, 0, none⟩) zs.length zs.length] 0 _)
  have zt := hbt.size
  have B := Below.andBut B hbt (by omega)
  have y0 := y0.but hbt (by omega)
  refine bodyPost_ret (v := .agg #[.int .i64 d1, .int .i64 q1, .slice (some ⟨g0, 0, none⟩) zs.length zs.length]) (by simp [results, Tryz.results171, go_sem, x0, x1, x2]) rfl ⟨_, rfl, ?_, B⟩
  exact Ty.Own.widen (int_own_of (int_own_of (y0.widen (lo' := w.heap.size) (hi' := w1.heap.size) (by omega) (by omega)))) (Nat.le_refl _) zt

set_option maxHeartbeats 1600000 in
theorem szJob_any (w : World) (o d1 b1 k t1 q1 : Int) (a0 a1 : Option Addr) (n0 n1 c0 c1 : Nat) (left : Int) (hn0 : n0 ≤ 9223372036854775807) (hn1 : n1 ≤ 9223372036854775807) (h0 : 0 ≤ left) (h1 : left ≤ 1048576) :
    Calls Tryz.prog 164 #[.agg #[.int .i64 o, .int .i64 d1, .int .i64 b1, .int .i64 k, .slice a0 n0 c0, .int .i64 t1, .slice a1 n1 c1, .int .i64 q1], .int .i64 left] w fun e w' => e = .returned (.int .i64 (leftOf left (n0 + n1))) ∧ Below w.heap.size w w' := by
  go_enter Tryz.func164, Tryz.ntmps164
  go_wp2_with fail
  refine seal_new ?_
  intro V A hA
  refine (szCmd_any _ o d1 b1 k _ _ _ left hn0 (by omega) (by omega)).mono ?_
  rintro e w1 ⟨rfl, b1⟩
  have B1 := Below.andThen hA b1
  obtain ⟨k0, k1, k2, k3, k4, k5, k6, k7⟩ := (A.below b1 A.lt).cells8e
  clear A hA b1
  by_cases h : (n0 : Int) ≤ left
  · rw [leftOf_pos h]
    have hq0 : ¬ left - (n0 : Int) < 0 := by omega
    go_wp2_with fail
    refine (szIntS_any _ _ _ _ (left - n0) hn1 (by omega) (by omega)).mono ?_
    rintro e w2 ⟨rfl, rfl⟩
    by_cases h2 : (n1 : Int) ≤ left - n0
    · have HF := hidden (leftOf_pos (show ((n0 + n1 : Nat) : Int) ≤ left by omega))
      rw [leftOf_pos h2]
      have hq1 : ¬ left - (n0 : Int) - n1 < 0 := by omega
      go_wp2
      go_ret
      exact ⟨ret_int (by rw [HF.out]; omega), B1⟩
    · have HF := hidden (leftOf_neg (show left < ((n0 + n1 : Nat) : Int) by omega))
      rw [leftOf_neg (left := left - (n0 : Int)) (wt := n1) (by omega)]
      go_wp2
      go_ret
      exact ⟨ret_int HF.out.symm, B1⟩
  · have HF := hidden (leftOf_neg (show left < ((n0 + n1 : Nat) : Int) by omega))
    rw [leftOf_neg (left := left) (wt := n0) (by omega)]
    go_wp2
    go_ret
    exact ⟨ret_int HF.out.symm, B1⟩

set_option maxHeartbeats 3200000 in
theorem toJob_any (w : World) (o d1 b1 k t1 q1 : Int) (a0 a1 : Option Addr) (c0 c1 : Nat) (zs gs : List Int) (r0 : tIntS.Rd w [.slice a0 zs.length c0] zs) (r1 : tIntS.Rd w [.slice a1 gs.length c1] gs) (hw : zs.length + gs.length ≤ 1048576) :
    Calls Tryz.prog 170 #[.agg #[.int .i64 o, .int .i64 d1, .int .i64 b1, .int .i64 k, .slice a0 zs.length c0, .int .i64 t1, .slice a1 gs.length c1, .int .i64 q1]] w fun e w' => ∃ g0 g1, e = .returned (.agg #[.int .i64 o, .int .i64 d1, .int .i64 b1, .int .i64 k, .slice (some ⟨g0, 0, none⟩) zs.length zs.length, .int .i64 t1, .slice (some ⟨g1, 0, none⟩) gs.length gs.length, .int .i64 q1]) ∧ tJob.Own w' w.heap.size w'.heap.size [.int .i64 o, .int .i64 d1, .int .i64 b1, .int .i64 k, .slice (some ⟨g0, 0, none⟩) zs.length zs.length, .int .i64 t1, .slice (some ⟨g1, 0, none⟩) gs.length gs.length, .int .i64 q1] (o, d1, b1, k, zs, t1, gs, q1) ∧ Below w.heap.size w w' := by
  go_enter Tryz.func170, Tryz.ntmps170
  go_wp2_with fail
  refine seal_new3 ?_
  intro V A R O hA
  have zv := O.lt
  have B := hA
  refine (toCmd_any _ o d1 b1 k _ _ _ zs rfl (ints_rd (r0.below B)).1 (by omega)).mono ?_
  rintro e w1 ⟨g0, rfl, y0, b⟩
  have A := A.below b A.lt
  have R := R.below b R.lt
  have O := O.below b O.lt
  have B := Below.andThen B b
  have z1 := b.size
  obtain ⟨k0, k1, k2, k3, k4, k5, k6, k7⟩ := A.cells8e
  obtain ⟨o0, o1, o2, o3, o4, o5, o6, o7⟩ := O.cells8e
  have fo := O.frozen
  go_wp2_with fail
  refine seal_at (((((((O.at.set _ _).set _ _).set _ _).set _ _).set _ _).set _ _)) ?_
  intro V1 E
  have A := E.other A (by omega)
  have R := E.other R (by omega)
  have B := E.below B (by omega)
  have y0 := E.own y0 (by omega)
  have z10 := E.size
  have O := E.box
  clear E
  refine (toIntS_new _ _ _ gs (r1.below B) (by omega)).mono ?_
  rintro e w2 ⟨g1, rfl, y1, b⟩
  have A := A.below b A.lt
  have R := R.below b R.lt
  have O := O.below b O.lt
  have B := Below.andThen B b
  have z11 := b.size
  have y0 := y0.below b
  obtain ⟨k0, k1, k2, k3, k4, k5, k6, k7⟩ := A.cells8e
  obtain ⟨o0, o1, o2, o3, o4, o5, o6, o7⟩ := O.cells8e
  have fo := O.frozen
  obtain ⟨x0, x1, x2, x3, x4, x5, x6, x7⟩ := R.cells8e
  have fr := R.frozen
  have la := A.lt
  have lo := O.lt
  clear A R O b
  go_wp2
  have hbt := (But.cells (lo := w.heap.size + 1) (hi := w.heap.size + 1 + 1 + 1) (g := w.heap.size + 1 + 1) (by omega) (by omega) [.slice (some ⟨g1, 0, none⟩) gs.length gs.length, .int .i64 q1] 6 w2).trans (But.cells (lo := w.heap.size + 1) (hi := w.heap.size + 1 + 1 + 1) (g := w.heap.size + 1) (by omega) (by omega) [.int .i64 o, .int .i64 d1, .int .i64 b1, .int .i64 k, .slice (some ⟨g0, 0, none⟩) zs.length zs.length, .int .i64 t1, .slice (some ⟨g1, 0, none⟩) gs.length gs.length, .int .i64 q1] 0 _)
  have zt := hbt.size
  have B := Below.andBut B hbt (by omega)
  have y0 := y0.but hbt (by omega)
  have y1 := y1.but hbt (by omega)
  refine bodyPost_ret (v := .agg #[.int .i64 o, .int .i64 d1, .int .i64 b1, .int .i64 k, .slice (some ⟨g0, 0, none⟩) zs.length zs.length, .int .i64 t1, .slice (some ⟨g1, 0, none⟩) gs.length gs.length, .int .i64 q1]) (by simp [results, Tryz.results170, go_sem, x0, x1, x2, x3, x4, x5, x6, x7]) rfl ⟨_, _, rfl, ?_, B⟩
  exact Ty.Own.widen (int_own_of (int_own_of (int_own_of (int_own_of (pair_own2 (vs := [_]) (lo := w.heap.size) (hi := w2.heap.size) y0 (int_own_of (pair_own2 (vs := [_]) (lo := V1.heap.size) (hi := w2.heap.size) y1 (int_own1 (lo := w2.heap.size) (hi := w2.heap.size)) (by omega) (by omega) (by omega))) (by omega) (by omega) (by omega)))))) (Nat.le_refl _) zt

set_option maxHeartbeats 3200000 in
theorem eqJob_same (w : World) (o d1 b1 k t1 q1 : Int) (a0 a1 e0 e1 : Option Addr) (c0 c1 g0 g1 : Nat) (zs gs : List Int) (r0 : tIntS.Rd w [.slice a0 zs.length c0] zs) (s0 : tIntS.Rd w [.slice e0 zs.length g0] zs) (r1 : tIntS.Rd w [.slice a1 gs.length c1] gs) (s1 : tIntS.Rd w [.slice e1 gs.length g1] gs) (hw : zs.length + gs.length ≤ 2097152) :
    Calls Tryz.prog 176 #[.agg #[.int .i64 o, .int .i64 d1, .int .i64 b1, .int .i64 k, .slice a0 zs.length c0, .int .i64 t1, .slice a1 gs.length c1, .int .i64 q1], .agg #[.int .i64 o, .int .i64 d1, .int .i64 b1, .int .i64 k, .slice e0 zs.length g0, .int .i64 t1, .slice e1 gs.length g1, .int .i64 q1]] w fun e w' => e = .returned (.bool true) ∧ Below w.heap.size w w' := by
  have hd : decide (gs = gs) = true := by simp
  go_enter Tryz.func176, Tryz.ntmps176
  go_wp2_with fail
  refine seal_new2 ?_
  intro V A X hA
  refine (eqCmd_same _ o d1 b1 k _ _ _ _ _ zs rfl (ints_rd (r0.below hA)).1 (ints_rd (s0.below hA)).1 (by omega)).mono ?_
  rintro e w1 ⟨rfl, b⟩
  have B := Below.andThen hA b
  have A := A.below b A.lt
  have X := X.below b X.lt
  obtain ⟨k0, k1, k2, k3, k4, k5, k6, k7⟩ := A.cells8e
  obtain ⟨o0, o1, o2, o3, o4, o5, o6, o7⟩ := X.cells8e
  clear hA b
  go_wp2_with fail
  refine (eqIntS_any _ _ _ _ _ _ _ gs gs rfl rfl (ints_rd (r1.below B)).1 (ints_rd (s1.below B)).1 (by omega)).mono ?_
  rintro e w2 ⟨rfl, hs⟩
  have B2 := Below.andSame B hs
  obtain ⟨k0, k1, k2, k3, k4, k5, k6, k7⟩ := (A.same hs).cells8e
  obtain ⟨o0, o1, o2, o3, o4, o5, o6, o7⟩ := (X.same hs).cells8e
  clear A X B hs
  go_wp2
  go_ret
  exact ⟨rfl, B2⟩

set_option maxHeartbeats 1600000 in
theorem szTurn_any (w : World) (o d1 b1 k d2 q1 : Int) (a0 a1 : Option Addr) (n0 n1 c0 c1 : Nat) (left : Int) (hn0 : n0 ≤ 9223372036854775807) (hn1 : n1 ≤ 9223372036854775807) (h0 : 0 ≤ left) (h1 : left ≤ 1048576) :
    Calls Tryz.prog 166 #[.agg #[.int .i64 o, .int .i64 d1, .int .i64 b1, .int .i64 k, .slice a0 n0 c0, .int .i64 d2, .int .i64 q1, .slice a1 n1 c1], .int .i64 left] w fun e w' => e = .returned (.int .i64 (leftOf left (n0 + n1))) ∧ Below w.heap.size w w' := by
  go_enter Tryz.func166, Tryz.ntmps166
  go_wp2_with fail
  refine seal_new ?_
  intro V A hA
  refine (szCmd_any _ o d1 b1 k _ _ _ left hn0 (by omega) (by omega)).mono ?_
  rintro e w1 ⟨rfl, b1⟩
  have B1 := Below.andThen hA b1
  obtain ⟨k0, k1, k2, k3, k4, k5, k6, k7⟩ := (A.below b1 A.lt).cells8e
  clear A hA b1
  by_cases h : (n0 : Int) ≤ left
  · rw [leftOf_pos h]
    have hq0 : ¬ left - (n0 : Int) < 0 := by omega
    go_wp2_with fail
    refine (szAns_any _ d2 q1 _ _ _ (left - n0) hn1 (by omega) (by omega)).mono ?_
    rintro e w2 ⟨rfl, b1⟩
    by_cases h2 : (n1 : Int) ≤ left - n0
    · have HF := hidden (leftOf_pos (show ((n0 + n1 : Nat) : Int) ≤ left by omega))
      rw [leftOf_pos h2]
      have hq1 : ¬ left - (n0 : Int) - n1 < 0 := by omega
      go_wp2
      go_ret
      exact ⟨ret_int (by rw [HF.out]; omega), Below.andThen B1 b1⟩
    · have HF := hidden (leftOf_neg (show left < ((n0 + n1 : Nat) : Int) by omega))
      rw [leftOf_neg (left := left - (n0 : Int)) (wt := n1) (by omega)]
      go_wp2
      go_ret
      exact ⟨ret_int HF.out.symm, Below.andThen B1 b1⟩
  · have HF := hidden (leftOf_neg (show left < ((n0 + n1 : Nat) : Int) by omega))
    rw [leftOf_neg (left := left) (wt := n0) (by omega)]
    go_wp2
    go_ret
    exact ⟨ret_int HF.out.symm, B1⟩

set_option maxHeartbeats 3200000 in
theorem toTurn_any (w : World) (o d1 b1 k d2 q1 : Int) (a0 a1 : Option Addr) (c0 c1 : Nat) (zs ys : List Int) (r0 : tIntS.Rd w [.slice a0 zs.length c0] zs) (r1 : tIntS.Rd w [.slice a1 ys.length c1] ys) (hw : zs.length + ys.length ≤ 1048576) :
    Calls Tryz.prog 172 #[.agg #[.int .i64 o, .int .i64 d1, .int .i64 b1, .int .i64 k, .slice a0 zs.length c0, .int .i64 d2, .int .i64 q1, .slice a1 ys.length c1]] w fun e w' => ∃ g0 g1, e = .returned (.agg #[.int .i64 o, .int .i64 d1, .int .i64 b1, .int .i64 k, .slice (some ⟨g0, 0, none⟩) zs.length zs.length, .int .i64 d2, .int .i64 q1, .slice (some ⟨g1, 0, none⟩) ys.length ys.length]) ∧ tTurn.Own w' w.heap.size w'.heap.size [.int .i64 o, .int .i64 d1, .int .i64 b1, .int .i64 k, .slice (some ⟨g0, 0, none⟩) zs.length zs.length, .int .i64 d2, .int .i64 q1, .slice (some ⟨g1, 0, none⟩) ys.length ys.length] (o, d1, b1, k, zs, d2, q1, ys) ∧ Below w.heap.size w w' := by
  go_enter Tryz.func172, Tryz.ntmps172
  go_wp2_with fail
  refine seal_new3 ?_
  intro V A R O hA
  have zv := O.lt
  have B := hA
  refine (toCmd_any _ o d1 b1 k _ _ _ zs rfl (ints_rd (r0.below B)).1 (by omega)).mono ?_
  rintro e w1 ⟨g0, rfl, y0, b⟩
  have A := A.below b A.lt
  have R := R.below b R.lt
  have O := O.below b O.lt
  have B := Below.andThen B b
  have z1 := b.size
  obtain ⟨k0, k1, k2, k3, k4, k5, k6, k7⟩ := A.cells8e
  obtain ⟨o0, o1, o2, o3, o4, o5, o6, o7⟩ := O.cells8e
  have fo := O.frozen
  go_wp2_with fail
  refine seal_at ((((((O.at.set _ _).set _ _).set _ _).set _ _).set _ _)) ?_
  intro V1 E
  have A := E.other A (by omega)
  have R := E.other R (by omega)
  have B := E.below B (by omega)
  have y0 := E.own y0 (by omega)
  have z10 := E.size
  have O := E.box
  clear E
  refine (toAns_any _ d2 q1 _ _ ys (r1.below B) (by omega)).mono ?_
  rintro e w2 ⟨g1, rfl, y1, b⟩
  have A := A.below b A.lt
  have R := R.below b R.lt
  have O := O.below b O.lt
  have B := Below.andThen B b
  have z11 := b.size
  have y0 := y0.below b
  obtain ⟨k0, k1, k2, k3, k4, k5, k6, k7⟩ := A.cells8e
  obtain ⟨o0, o1, o2, o3, o4, o5, o6, o7⟩ := O.cells8e
  have fo := O.frozen
  obtain ⟨x0, x1, x2, x3, x4, x5, x6, x7⟩ := R.cells8e
  have fr := R.frozen
  have la := A.lt
  have lo := O.lt
  clear A R O b
  go_wp2
  have hbt := (But.cells (lo := w.heap.size + 1) (hi := w.heap.size + 1 + 1 + 1) (g := w.heap.size + 1 + 1) (by omega) (by omega) [.int .i64 d2, .int .i64 q1, .slice (some ⟨g1, 0, none⟩) ys.length ys.length] 5 w2).trans (But.cells (lo := w.heap.size + 1) (hi := w.heap.size + 1 + 1 + 1) (g := w.heap.size + 1) (by omega) (by omega) [.int .i64 o, .int .i64 d1, .int .i64 b1, .int .i64 k, .slice (some ⟨g0, 0, none⟩) zs.length zs.length, .int .i64 d2, .int .i64 q1, .slice (some ⟨g1, 0, none⟩) ys.length ys.length] 0 _)
  have zt := hbt.size
  have B := Below.andBut B hbt (by omega)
  have y0 := y0.but hbt (by omega)
  have y1 := y1.but hbt (by omega)
  refine bodyPost_ret (v := .agg #[.int .i64 o, .int .i64 d1, .int .i64 b1, .int .i64 k, .slice (some ⟨g0, 0, none⟩) zs.length zs.length, .int .i64 d2, .int .i64 q1, .slice (some ⟨g1, 0, none⟩) ys.length ys.length]) (by simp [results, Tryz.results172, go_sem, x0, x1, x2, x3, x4, x5, x6, x7]) rfl ⟨_, _, rfl, ?_, B⟩
  exact Ty.Own.widen (int_own_of (int_own_of (int_own_of (int_own_of (pair_own2 (vs := [_]) (lo := w.heap.size) (hi := w2.heap.size) y0 (y1.widen (lo' := V1.heap.size) (hi' := w2.heap.size) (by omega) (by omega)) (by omega) (by omega) (by omega)))))) (Nat.le_refl _) zt

set_option maxHeartbeats 3200000 in
theorem eqTurn_same (w : World) (o d1 b1 k d2 q1 : Int) (a0 a1 e0 e1 : Option Addr) (c0 c1 g0 g1 : Nat) (zs ys : List Int) (r0 : tIntS.Rd w [.slice a0 zs.length c0] zs) (s0 : tIntS.Rd w [.slice e0 zs.length g0] zs) (r1 : tIntS.Rd w [.slice a1 ys.length c1] ys) (s1 : tIntS.Rd w [.slice e1 ys.length g1] ys) (hw : zs.length + ys.length ≤ 2097152) :
    Calls Tryz.prog 178 #[.agg #[.int .i64 o, .int .i64 d1, .int .i64 b1, .int .i64 k, .slice a0 zs.length c0, .int .i64 d2, .int .i64 q1, .slice a1 ys.length c1], .agg #[.int .i64 o, .int .i64 d1, .int .i64 b1, .int .i64 k, .slice e0 zs.length g0, .int .i64 d2, .int .i64 q1, .slice e1 ys.length g1]] w fun e w' => e = .returned (.bool true) ∧ Below w.heap.size w w' := by
  have hd : decide (ys = ys) = true := by simp
  go_enter Tryz.func178, Tryz.ntmps178
  go_wp2_with fail
  refine seal_new2 ?_
  intro V A X hA
  refine (eqCmd_same _ o d1 b1 k _ _ _ _ _ zs rfl (ints_rd (r0.below hA)).1 (ints_rd (s0.below hA)).1 (by omega)).mono ?_
  rintro e w1 ⟨rfl, b⟩
  have B := Below.andThen hA b
  have A := A.below b A.lt
  have X := X.below b X.lt
  obtain ⟨k0, k1, k2, k3, k4, k5, k6, k7⟩ := A.cells8e
  obtain ⟨o0, o1, o2, o3, o4, o5, o6, o7⟩ := X.cells8e
  clear hA b
  go_wp2_with fail
  refine (eqAns_same _ d2 q1 _ _ _ _ _ ys (r1.below B) (s1.below B) (by omega)).mono ?_
  rintro e w2 ⟨rfl, b2⟩
  have B2 := Below.andThen B b2
  clear A X B b2
  go_wp2
  go_ret
  exact ⟨rfl, B2⟩

end Go.Proofs.YtbkkjfgjlapadaaGreat
