/-
  The walk of the program's copyEng: the same engine in memory of its own. Condition: it weighs at most 2097152.
-/
import Derived.Test.YtbkkjfgjlapadaaGreatWalkEach15
import Derived.Test.YtbkkjfgjlapadaaGreatEng15
import Derived.Test.YtbkkjfgjlapadaaGreatWalkCopyArrI
namespace Go.Proofs.YtbkkjfgjlapadaaGreat
open Go.RowKit

set_option maxRecDepth 20000 in
set_option maxHeartbeats 6400000 in
theorem copyEng_any (w : World) (cs : Array Value) (e : EngD) (h : EngRd w cs e) (hw : wtEng e ≤ 2097152) :
    Calls Tryz.prog 48 #[.agg cs] w fun e' w' => ∃ cs', e' = .returned (.agg cs') ∧ EngOwn w' w.heap.size w'.heap.size cs' e ∧ Below w.heap.size w w' := by
  obtain ⟨x, ms, ds, ws, js, an, ts⟩ := e
  obtain ⟨am, cm, ad, cd, aw, cw, aj, cj, aa, ca, au, cu, rfl, r0, r1, r2, r3, r4, r5⟩ := h.parts
  unfold engC
  have HT : wtArr ms ds + wttCmdS ws + wttJobS js + wttAnsS an + wttTurnS ts ≤ 2097152 := hw
  clear hw
  go_enter Tryz.func48, Tryz.ntmps48
  go_wp2_with fail
  refine seal_new2C ?_
  intro V A R B
  have lA := A.lt
  have lR := R.lt
  obtain ⟨k0, k1, k2, k3, k4, k5, k6, k7, k8, k9, k10, k11, k12, k13, k14, k15, k16⟩ := A.cells17
  refine wp_region_held_drew (S := fun w' => ∀ q, w'.cell? ⟨w.heap.size, q, none⟩ = V.cell? ⟨w.heap.size, q, none⟩) (by kernel_rfl) (fun _ => rfl) (fun hHeld => ?_)
  refine held_t 0 hHeld ?_
  refine held_t 1 hHeld ?_
  refine held_t 3 hHeld ?_
  refine held_t 4 hHeld ?_
  refine held_t 6 hHeld ?_
  refine held_t 7 hHeld ?_
  refine held_t 9 hHeld ?_
  refine held_t 10 hHeld ?_
  refine held_t 12 hHeld ?_
  refine held_t 13 hHeld ?_
  clear k0 k1 k2 k3 k4 k5 k6 k7 k8 k9 k10 k11 k12 k13 k14 k15 k16
  refine held_one (i := 2) (by kernel_rfl) rfl (by kernel_rfl) (fun K hK => ?_)
  go_simp
  refine (copyArr_any _ _ _ _ x _ _ _ _ _ _ ms ds (r0.below B).drew (r1.below B).drew (by omega)).mono ?_
  rintro e w1 ⟨bm, dm, bd, dd, m, rfl, ym, yd, ya, yb, b⟩
  have q1 : Below V.heap.size V w1 := (Below.refl V.heap.size V).drew.trans b
  have z1 := q1.size
  have ya : V.heap.size ≤ m := ya
  have ym : (tMemS 214 147).Own w1 V.heap.size m _ ms := ym
  go_wp2_with fail
  clear hHeld b
  refine hK.out _ _ (fun q => q1.cell (p := ⟨w.heap.size, q, none⟩) lA) (fun hHeld => ?_)
  clear hK K
  refine held_one (i := 5) (by kernel_rfl) rfl (by kernel_rfl) (fun K hK => ?_)
  go_simp
  refine (copyEachCmd_any _ _ _ _ _ ws (r2.below (Below.andThen B q1)) (by omega)).mono ?_
  rintro e w2 ⟨vw, rfl, yw, b⟩
  have q2 := Below.andThen q1 b
  have z2 := b.size
  have ym := ym.below b
  have yd := yd.below b
  go_wp2_with fail
  clear hHeld b
  refine hK.out _ _ (fun q => q2.cell (p := ⟨w.heap.size, q, none⟩) lA) (fun hHeld => ?_)
  clear hK K q1
  refine held_one (i := 8) (by kernel_rfl) rfl (by kernel_rfl) (fun K hK => ?_)
  go_simp
  refine (copyEachJob_any _ _ _ _ _ js (r3.below (Below.andThen B q2)) (by omega)).mono ?_
  rintro e w3 ⟨vj, rfl, yj, b⟩
  have q3 := Below.andThen q2 b
  have z3 := b.size
  have ym := ym.below b
  have yd := yd.below b
  have yw := yw.below b
  go_wp2_with fail
  clear hHeld b
  refine hK.out _ _ (fun q => q3.cell (p := ⟨w.heap.size, q, none⟩) lA) (fun hHeld => ?_)
  clear hK K q2
  refine held_one (i := 11) (by kernel_rfl) rfl (by kernel_rfl) (fun K hK => ?_)
  go_simp
  refine (copyEachAns_any _ _ _ _ _ an (r4.below (Below.andThen B q3)) (by omega)).mono ?_
  rintro e w4 ⟨va, rfl, yn, b⟩
  have q4 := Below.andThen q3 b
  have z4 := b.size
  have ym := ym.below b
  have yd := yd.below b
  have yw := yw.below b
  have yj := yj.below b
  go_wp2_with fail
  clear hHeld b
  refine hK.out _ _ (fun q => q4.cell (p := ⟨w.heap.size, q, none⟩) lA) (fun hHeld => ?_)
  clear hK K q3
  refine held_one (i := 14) (by kernel_rfl) rfl (by kernel_rfl) (fun K hK => ?_)
  go_simp
  refine (copyEachTurn_any _ _ _ _ _ ts (r5.below (Below.andThen B q4)) (by omega)).mono ?_
  rintro e w5 ⟨vu, rfl, yu, b⟩
  have q5 := Below.andThen q4 b
  have z5 := b.size
  have ym := ym.below b
  have yd := yd.below b
  have yw := yw.below b
  have yj := yj.below b
  have yn := yn.below b
  obtain ⟨bw, dw, rfl⟩ := row_shape yw.rd
  obtain ⟨bj, dj, rfl⟩ := row_shape yj.rd
  obtain ⟨bn, dn, rfl⟩ := row_shape yn.rd
  obtain ⟨bu, du, rfl⟩ := row_shape yu.rd
  go_wp2_with fail
  clear hHeld b
  refine hK.out _ _ (fun q => q5.cell (p := ⟨w.heap.size, q, none⟩) lA) (fun hHeld => ?_)
  clear hK K q4
  refine held_t 15 hHeld ?_
  refine held_one (i := 16) (by kernel_rfl) rfl (by kernel_rfl) (fun K hK => ?_)
  refine wp_store_box _ _ _ rfl rfl rfl (R.below q5 lR) rfl Tryz.sizeEng (by rfl) (fun W X hb hs => ?_)
  clear hHeld
  refine hK.out _ _ (fun q => ?_) (fun hHeld => ?_)
  · rw [← q5.cell (p := ⟨w.heap.size, q, none⟩) lA]
    exact World.cell?_of_block (w := w5) (hb.block w.heap.size (by omega) (by omega))
  clear hK K hHeld
  refine wpAnyH_done (by kernel_rfl) ?_ _
  have pm := ym.but hb (by omega)
  have pd := yd.but hb (by omega)
  have pw := yw.but hb (by omega)
  have pj := yj.but hb (by omega)
  have pa := yn.but hb (by omega)
  have pu := yu.but hb (by omega)
  have K := hidden (Ty.Own.widen (pair_own2 (vs := [_]) (lo := V.heap.size) (hi := w5.heap.size) pm (pair_own2 (vs := [_]) (lo := m) (hi := w5.heap.size) pd (pair_own2 (vs := [_]) (lo := w1.heap.size) (hi := w5.heap.size) pw (pair_own2 (vs := [_]) (lo := w2.heap.size) (hi := w5.heap.size) pj (pair_own2 (vs := [_]) (lo := w3.heap.size) (hi := w5.heap.size) pa (pu.widen (lo' := w4.heap.size) (hi' := w5.heap.size) (by omega) (by omega)) (by omega) (by omega) (by omega)) (by omega) (by omega) (by omega)) (by omega) (by omega) (by omega)) (by omega) (by omega) (by omega)) (by omega) (by omega) (by omega)) (show w.heap.size ≤ V.heap.size by omega) hb.size)
  have KB := hidden (Below.andBut (Below.andThen B q5) hb (by omega))
  clear hb q5 B ym yd yw yj yn yu pm pd pw pj pa pu
  obtain ⟨x0, x1, x2, x3, x4, x5, x6, x7, x8, x9, x10, x11, x12, x13, x14, x15, x16⟩ := X.cells17
  go_wp2
  refine bodyPost_ret (v := .agg #[.int .i64 x.id, .int .i64 x.n, .int .i64 x.s, .slice bm ms.length dm, .int .i64 x.lost, .int .i64 x.built, .int .i64 x.seq, .int .i64 x.tail, .int .i64 x.gen, .slice bd ds.length dd, .int .i64 x.fuse, .bool x.down, .bool x.broken, .slice bw ws.length dw, .slice bj js.length dj, .slice bn an.length dn, .slice bu ts.length du]) (by simp [results, Tryz.results48, go_sem, x0, x1, x2, x3, x4, x5, x6, x7, x8, x9, x10, x11, x12, x13, x14, x15, x16]) rfl ⟨_, rfl, ⟨_, _, _, _, _, _, rfl, K.out⟩, KB.out⟩

end Go.Proofs.YtbkkjfgjlapadaaGreat
