/-
  The program's copies of a job and of a turn. Conditions: at most 2097152 words.
-/
import Derived.Test.YtbkkjfgjlapadaaGreatCopy15
import Derived.Test.YtbkkjfgjlapadaaGreatHeldLoad15
import Derived.Test.YtbkkjfgjlapadaaGreatSealC15
import Derived.Test.YtbkkjfgjlapadaaGreatLate
namespace Go.Proofs.YtbkkjfgjlapadaaGreat
open Go.RowKit

theorem seal_then {φ : World → Prop} {w0 W : World} {B : Nat} {T : TypeId} {l : List Value} (E : BoxAt w0 W B T l) (h : ∀ V, BoxAt w0 V B T l → φ V) : φ W := h W E

theorem Tryz.szTurn15 : (Tryz.prog.info? 95).map (·.size) = some 8 := by kernel_rfl
theorem Tryz.szJob15 : (Tryz.prog.info? 92).map (·.size) = some 8 := by kernel_rfl

set_option maxRecDepth 20000 in
set_option maxHeartbeats 3200000 in
theorem copyTurn_any (w : World) (o d1 b1 k d2 q1 : Int) (a0 a1 : Option Addr) (c0 c1 : Nat) (zs ys : List Int) (r0 : tIntS.Rd w [.slice a0 zs.length c0] zs) (r1 : tIntS.Rd w [.slice a1 ys.length c1] ys) (hz : zs.length ≤ 2097152) (hy : ys.length ≤ 2097152) :
    Calls Tryz.prog 124 #[.agg #[.int .i64 o, .int .i64 d1, .int .i64 b1, .int .i64 k, .slice a0 zs.length c0, .int .i64 d2, .int .i64 q1, .slice a1 ys.length c1]] w fun e w' => ∃ b0 e0 b1' e1, e = .returned (.agg #[.int .i64 o, .int .i64 d1, .int .i64 b1, .int .i64 k, .slice b0 zs.length e0, .int .i64 d2, .int .i64 q1, .slice b1' ys.length e1]) ∧ tTurn.Own w' w.heap.size w'.heap.size [.int .i64 o, .int .i64 d1, .int .i64 b1, .int .i64 k, .slice b0 zs.length e0, .int .i64 d2, .int .i64 q1, .slice b1' ys.length e1] (o, d1, b1, k, zs, d2, q1, ys) ∧ Below w.heap.size w w' := by
  go_enter Tryz.func124, Tryz.ntmps124
  go_wp2_with fail
  refine seal_new2C ?_
  intro V A R B
  obtain ⟨k0, k1, k2, k3, k4, k5, k6, k7⟩ := A.cells8e
  have lA := A.lt
  have lR := R.lt
  refine wp_region_held_drew (S := fun w' => ∀ q, w'.cell? ⟨w.heap.size, q, none⟩ = V.cell? ⟨w.heap.size, q, none⟩) (by kernel_rfl) (fun _ => rfl) (fun hHeld => ?_)
  refine held_t 0 hHeld ?_
  refine held_t 1 hHeld ?_
  refine held_t 3 hHeld ?_
  refine held_t 4 hHeld ?_
  refine held_one (i := 2) (by kernel_rfl) rfl (by kernel_rfl) (fun K hK => ?_)
  go_simp
  refine (copyCmd_any _ o d1 b1 k _ _ zs (r0.below B).drew hz).mono ?_
  rintro e w1 ⟨b0, e0, rfl, y0, b⟩
  have q1' : Below V.heap.size V w1 := (Below.refl V.heap.size V).drew.trans b
  have z1 := q1'.size
  have y0 : tCmd.Own w1 V.heap.size w1.heap.size _ _ := y0
  go_wp2_with fail
  clear hHeld
  refine hK.out _ _ (fun q => q1'.cell (p := ⟨w.heap.size, q, none⟩) lA) (fun hHeld => ?_)
  clear hK K
  refine held_one (i := 5) (by kernel_rfl) rfl (by kernel_rfl) (fun K hK => ?_)
  go_simp
  refine (copyAns_any _ d2 q1 _ _ ys (r1.below (Below.andThen B q1')) hy).mono ?_
  rintro e w2 ⟨b1', e1, rfl, y1, b'⟩
  have q2 := Below.andThen q1' b'
  have z2 := b'.size
  have y0 := y0.below b'
  go_wp2_with fail
  clear hHeld
  refine hK.out _ _ (fun q => q2.cell (p := ⟨w.heap.size, q, none⟩) lA) (fun hHeld => ?_)
  clear hK K
  refine held_t 6 hHeld ?_
  refine held_one (i := 7) (by kernel_rfl) rfl (by kernel_rfl) (fun K hK => ?_)
  refine wp_store_box _ _ _ rfl rfl rfl (R.below q2 lR) rfl Tryz.szTurn15 (by rfl) (fun W X hb hs => ?_)
  clear hHeld
  refine hK.out _ _ (fun q => ?_) (fun hHeld => ?_)
  · rw [← q2.cell (p := ⟨w.heap.size, q, none⟩) lA]
    exact World.cell?_of_block (w := w2) (hb.block w.heap.size (by omega) (by omega))
  clear hK K hHeld
  refine wpAnyH_done (by kernel_rfl) ?_ _
  have HB := hidden (Below.andBut (Below.andThen B q2) hb (by omega))
  have y0 := y0.but hb (by omega)
  have y1 := y1.but hb (by omega)
  have hle := hb.size
  obtain ⟨g0, m0, gr0⟩ := y0.mine
  obtain ⟨_, m0⟩ := int_mine m0
  obtain ⟨_, m0⟩ := int_mine m0
  obtain ⟨_, m0⟩ := int_mine m0
  obtain ⟨_, m0⟩ := int_mine m0
  have y0' := m0.own gr0
  have K := hidden (Ty.Own.widen (int_own_of (x := o) (int_own_of (x := d1) (int_own_of (x := b1) (int_own_of (x := k) (pair_own2 (vs := [_]) (lo := V.heap.size) (hi := W.heap.size) y0' y1 (by omega) (by omega) (by omega)))))) (show w.heap.size ≤ V.heap.size by omega) (Nat.le_refl W.heap.size))
  clear y0 y1 y0' m0 hb q1' q2 b b' B
  obtain ⟨x0, x1, x2, x3, x4, x5, x6, x7⟩ := X.cells8e
  go_wp2
  refine bodyPost_ret (v := .agg #[.int .i64 o, .int .i64 d1, .int .i64 b1, .int .i64 k, .slice b0 zs.length e0, .int .i64 d2, .int .i64 q1, .slice b1' ys.length e1]) (by simp [results, Tryz.results124, go_sem, x0, x1, x2, x3, x4, x5, x6, x7]) rfl ⟨_, _, _, _, rfl, K.out, HB.out⟩

set_option maxRecDepth 20000 in
set_option maxHeartbeats 3200000 in
theorem copyJob_any (w : World) (o d1 b1 k t1 q1 : Int) (a0 a1 : Option Addr) (c0 c1 : Nat) (zs gs : List Int) (r0 : tIntS.Rd w [.slice a0 zs.length c0] zs) (r1 : tIntS.Rd w [.slice a1 gs.length c1] gs) (hz : zs.length ≤ 2097152) (hy : gs.length ≤ 2097152) :
    Calls Tryz.prog 120 #[.agg #[.int .i64 o, .int .i64 d1, .int .i64 b1, .int .i64 k, .slice a0 zs.length c0, .int .i64 t1, .slice a1 gs.length c1, .int .i64 q1]] w fun e w' => ∃ b0 e0 b1' e1, e = .returned (.agg #[.int .i64 o, .int .i64 d1, .int .i64 b1, .int .i64 k, .slice b0 zs.length e0, .int .i64 t1, .slice b1' gs.length e1, .int .i64 q1]) ∧ tJob.Own w' w.heap.size w'.heap.size [.int .i64 o, .int .i64 d1, .int .i64 b1, .int .i64 k, .slice b0 zs.length e0, .int .i64 t1, .slice b1' gs.length e1, .int .i64 q1] (o, d1, b1, k, zs, t1, gs, q1) ∧ Below w.heap.size w w' := by
  go_enter Tryz.func120, Tryz.ntmps120
  go_wp2_with fail
  refine seal_new2C ?_
  intro V A R B
  obtain ⟨k0, k1, k2, k3, k4, k5, k6, k7⟩ := A.cells8e
  have lA := A.lt
  have lR := R.lt
  refine Late.start (S := fun w' => ∀ q, w'.cell? ⟨w.heap.size, q, none⟩ = V.cell? ⟨w.heap.size, q, none⟩) (k := 7) (by kernel_rfl) ?_
  have hS : ∀ q, V.drew.cell? ⟨w.heap.size, q, none⟩ = V.cell? ⟨w.heap.size, q, none⟩ := fun _ => rfl
  refine Late.take (i := 0) (v := ?_) rfl (by kernel_rfl) (by kernel_rfl) (by kernel_rfl) (by kernel_rfl) (fun _ _ _ h => h) (Or.inl ⟨by rfl, ?_⟩) hS ?_
  rotate_left 1
  · (intro w hSw; (try dsimp only at hSw); go_split_ands; go_simp; first | done | with_reducible rfl)
  simp only [Act.put, List.setIfInBounds_toArray, List.set_cons_zero, List.set_cons_succ]
  refine Late.take (i := 1) (v := ?_) rfl (by kernel_rfl) (by kernel_rfl) (by kernel_rfl) (by kernel_rfl) (fun _ _ _ h => h) (Or.inl ⟨by rfl, ?_⟩) hS ?_
  rotate_left 1
  · (intro w hSw; (try dsimp only at hSw); go_split_ands; go_simp; first | done | with_reducible rfl)
  simp only [Act.put, List.setIfInBounds_toArray, List.set_cons_zero, List.set_cons_succ]
  refine Late.take (i := 3) (v := ?_) rfl (by kernel_rfl) (by kernel_rfl) (by kernel_rfl) (by kernel_rfl) (fun _ _ _ h => h) (Or.inl ⟨by rfl, ?_⟩) hS ?_
  rotate_left 1
  · (intro w hSw; (try dsimp only at hSw); go_split_ands; go_simp; first | done | with_reducible rfl)
  simp only [Act.put, List.setIfInBounds_toArray, List.set_cons_zero, List.set_cons_succ]
  refine Late.take (i := 4) (v := ?_) rfl (by kernel_rfl) (by kernel_rfl) (by kernel_rfl) (by kernel_rfl) (fun _ _ _ h => h) (Or.inl ⟨by rfl, ?_⟩) hS ?_
  rotate_left 1
  · (intro w hSw; (try dsimp only at hSw); go_split_ands; go_simp; first | done | with_reducible rfl)
  simp only [Act.put, List.setIfInBounds_toArray, List.set_cons_zero, List.set_cons_succ]
  refine Late.one (i := 2) (by kernel_rfl) rfl (fun K hK => ?_)
  rw [if_pos (by kernel_rfl)]
  go_simp
  refine (copyCmd_any _ o d1 b1 k _ _ zs (r0.below B).drew hz).mono ?_
  rintro e w1 ⟨b0, e0, rfl, y0, b⟩
  have q1' : Below V.heap.size V w1 := (Below.refl V.heap.size V).drew.trans b
  have z1 := b.size
  have hS1 : ∀ q, w1.cell? ⟨w.heap.size, q, none⟩ = V.cell? ⟨w.heap.size, q, none⟩ := fun q => q1'.cell (p := ⟨w.heap.size, q, none⟩) lA
  clear hS
  go_wp2_with fail
  refine hK.out _ _ (fun _ => hS1) ?_
  clear hK K
  refine Late.take (i := 6) (v := ?_) rfl (by kernel_rfl) (by kernel_rfl) (by kernel_rfl) (by kernel_rfl) (fun _ _ _ h => h) (Or.inl ⟨by rfl, ?_⟩) hS1 ?_
  rotate_left 1
  · (intro w hSw; (try dsimp only at hSw); go_split_ands; go_simp; first | done | with_reducible rfl)
  simp only [Act.put, List.setIfInBounds_toArray, List.set_cons_zero, List.set_cons_succ]
  refine Late.one (i := 5) (by kernel_rfl) rfl (fun K hK => ?_)
  rw [if_pos (by kernel_rfl)]
  go_simp
  refine (copyWords_any _ _ _ _ gs (r1.below (Below.andThen B q1')) hy).mono ?_
  rintro e w2 ⟨b1', e1, rfl, y1, b'⟩
  have q2 := Below.andThen q1' b'
  have z2 := b'.size
  have y0 := y0.below b'
  clear hS1
  go_wp2_with fail
  refine hK.out _ _ (fun _ q => q2.cell (p := ⟨w.heap.size, q, none⟩) lA) ?_
  clear hK K
  have A2 := A.below q2 lA
  have R2 := R.below q2 lR
  have HB2 := hidden (Below.andThen B q2)
  clear A R b b' q1' k0 k1 k2 k3 k4 k5 k6 k7
  obtain ⟨k0, k1, k2, k3, k4, k5, k6, k7⟩ := A2.cells8e
  have fo := A2.frozen
  refine Late.one (i := 7) (by kernel_rfl) rfl (fun K hK => ?_)
  rw [if_pos (by kernel_rfl)]
  go_wp2_with fail
  refine hK.out _ _ (fun h => absurd rfl h) ?_
  clear hK K
  refine Late.late (i := 8) (by kernel_rfl) rfl (by kernel_rfl) (fun K hK => ?_)
  rw [if_pos (by kernel_rfl)]
  go_wp2_with fail
  refine hK.out _ _ ?_
  clear hK K
  refine Late.late (i := 9) (by kernel_rfl) rfl (by kernel_rfl) (fun K hK => ?_)
  rw [if_pos (by kernel_rfl)]
  go_wp2_with fail
  refine hK.out _ _ ?_
  clear hK K
  refine Late.done (by kernel_rfl) ?_ _
  have E : BoxAt w2 _ w.heap.size 92 [.int .i64 o, .int .i64 d1, .int .i64 b1, .int .i64 k, .slice b0 zs.length e0, .int .i64 t1, .slice b1' gs.length e1, .int .i64 q1] := (((((A2.at.set 0 (.int .i64 o)).set 1 (.int .i64 d1)).set 2 (.int .i64 b1)).set 3 (.int .i64 k)).set 4 (.slice b0 zs.length e0)).set 6 (.slice b1' gs.length e1)
  clear k0 k1 k2 k3 k4 k5 k6 k7 fo
  refine seal_then E ?_
  clear E
  intro W3 E
  have y0 : tCmd.Own w2 V.heap.size w1.heap.size _ _ := y0
  have z1 : V.heap.size ≤ w1.heap.size := z1
  have y0 := E.own y0 (Or.inl lA)
  have y1 := E.own y1 (Or.inl (by omega))
  have R3 := E.other R2 (by omega)
  have HB := E.below HB2.out (Nat.le_refl _)
  have A3 := E.box
  have z3 := E.size
  have z5 := q2.size
  clear A2 R2 HB2 q2 E
  go_wp2_with (first | (refine wpList_load_box rfl _ _ rfl rfl A3 _ Tryz.underlying92 rfl Tryz.szJob15 ?_) | (refine wpList_store_box rfl _ _ _ rfl rfl rfl R3 rfl Tryz.szJob15 (by rfl) ?_; intro W X hb hs) | fail)
  have y0 := y0.but hb (by omega)
  have y1 := y1.but hb (by omega)
  have hle := hb.size
  obtain ⟨g0, m0, gr0⟩ := y0.mine
  obtain ⟨_, m0⟩ := int_mine m0
  obtain ⟨_, m0⟩ := int_mine m0
  obtain ⟨_, m0⟩ := int_mine m0
  obtain ⟨_, m0⟩ := int_mine m0
  have y0' := m0.own gr0
  have K := hidden (Ty.Own.widen (int_own_of (x := o) (int_own_of (x := d1) (int_own_of (x := b1) (int_own_of (x := k) (pair_own2 (vs := [_]) (lo := V.heap.size) (hi := W.heap.size) y0' (int_own_of (x := t1) (pair_own2 (vs := [_]) (lo := w1.heap.size) (hi := W.heap.size) y1 (int_own1 (x := q1) (lo := W.heap.size) (hi := W.heap.size)) (by omega) (by omega) (by omega))) (by omega) (by omega) (by omega)))))) (show w.heap.size ≤ V.heap.size by omega) (Nat.le_refl W.heap.size))
  have HB := hidden (Below.andBut HB hb (by omega))
  clear y0 y1 y0' m0 hb
  obtain ⟨x0, x1, x2, x3, x4, x5, x6, x7⟩ := X.cells8e
  go_wp2
  refine bodyPost_ret (v := .agg #[.int .i64 o, .int .i64 d1, .int .i64 b1, .int .i64 k, .slice b0 zs.length e0, .int .i64 t1, .slice b1' gs.length e1, .int .i64 q1]) (by simp [results, Tryz.results120, go_sem, x0, x1, x2, x3, x4, x5, x6, x7]) rfl ⟨_, _, _, _, rfl, K.out, HB.out⟩

end Go.Proofs.YtbkkjfgjlapadaaGreat
