/-
  An engine as data; the laws' helpers over one: what is left of a bound, the copy, the comparison of two that read alike. Conditions: it weighs at most 1048576 (2097152 for the comparison).
-/
import Derived.Test.YtbkkjfgjlapadaaGreatSl15
import Derived.Test.YtbkkjfgjlapadaaGreatCmdS14
import Derived.Test.YtbkkjfgjlapadaaGreatWalkArr
import Derived.Test.YtbkkjfgjlapadaaGreatLoad15
namespace Go.Proofs.YtbkkjfgjlapadaaGreat
open Go.RowKit

/-- An engine's data: its array's numbers, its slices. -/
structure EngD where
  x : ArrN
  ms : List MemD
  ds : List (Int × List Int)
  ws : List CmdD
  js : List JobD
  an : List AnsD
  ts : List TurnD
abbrev tEngS : Ty := pairTy (tMemS 214 147) (pairTy (tWrS 162) (pairTy (tCmdS 38) (pairTy (tJobS 92) (pairTy (tAnsS 55) (tTurnS 95)))))
def engC (x : ArrN) (vm vd vw vj va vu : Value) : Array Value := #[.int .i64 x.id, .int .i64 x.n, .int .i64 x.s, vm, .int .i64 x.lost, .int .i64 x.built, .int .i64 x.seq, .int .i64 x.tail, .int .i64 x.gen, vd, .int .i64 x.fuse, .bool x.down, .bool x.broken, vw, vj, va, vu]
def EngD.dat (e : EngD) : tEngS.D := (e.ms, e.ds, e.ws, e.js, e.an, e.ts)
/-- An engine's cells read so. -/
def EngRd (w : World) (cs : Array Value) (e : EngD) : Prop := ∃ vm vd vw vj va vu, cs = engC e.x vm vd vw vj va vu ∧ tEngS.Rd w [vm, vd, vw, vj, va, vu] e.dat
/-- .. and what its slices lead to is a call's own, in blocks lo .. hi. -/
def EngOwn (w : World) (lo hi : Nat) (cs : Array Value) (e : EngD) : Prop := ∃ vm vd vw vj va vu, cs = engC e.x vm vd vw vj va vu ∧ tEngS.Own w lo hi [vm, vd, vw, vj, va, vu] e.dat
theorem EngOwn.rd {w : World} {lo hi : Nat} {cs : Array Value} {e : EngD} (h : EngOwn w lo hi cs e) : EngRd w cs e := by
  obtain ⟨vm, vd, vw, vj, va, vu, h1, h2⟩ := h
  exact ⟨vm, vd, vw, vj, va, vu, h1, h2.rd⟩
theorem EngRd.below {w w' : World} {cs : Array Value} {e : EngD} (h : EngRd w cs e) (hb : Below w.heap.size w w') : EngRd w' cs e := by
  obtain ⟨vm, vd, vw, vj, va, vu, h1, h2⟩ := h
  exact ⟨vm, vd, vw, vj, va, vu, h1, h2.below hb⟩
theorem EngOwn.below {w w' : World} {lo hi : Nat} {cs : Array Value} {e : EngD} (h : EngOwn w lo hi cs e) (hb : Below w.heap.size w w') : EngOwn w' lo hi cs e := by
  obtain ⟨vm, vd, vw, vj, va, vu, h1, h2⟩ := h
  exact ⟨vm, vd, vw, vj, va, vu, h1, h2.below hb⟩
theorem EngOwn.but {w w' : World} {lo hi l u : Nat} {cs : Array Value} {e : EngD} (h : EngOwn w lo hi cs e) (hb : But l u w w') (hd : hi ≤ l ∨ u ≤ lo) : EngOwn w' lo hi cs e := by
  obtain ⟨vm, vd, vw, vj, va, vu, h1, h2⟩ := h
  exact ⟨vm, vd, vw, vj, va, vu, h1, h2.but hb hd⟩
theorem EngOwn.widen {w : World} {lo hi lo' hi' : Nat} {cs : Array Value} {e : EngD} (h : EngOwn w lo hi cs e) (h1 : lo' ≤ lo) (h2 : hi ≤ hi') : EngOwn w lo' hi' cs e := by
  obtain ⟨vm, vd, vw, vj, va, vu, k1, k2⟩ := h
  exact ⟨vm, vd, vw, vj, va, vu, k1, k2.widen h1 h2⟩
theorem EngRd.parts {w : World} {cs : Array Value} {e : EngD} (h : EngRd w cs e) : ∃ am cm ad cd aw cw aj cj aa ca au cu, cs = engC e.x (.slice am e.ms.length cm) (.slice ad e.ds.length cd) (.slice aw e.ws.length cw) (.slice aj e.js.length cj) (.slice aa e.an.length ca) (.slice au e.ts.length cu) ∧ (tMemS 214 147).Rd w [.slice am e.ms.length cm] e.ms ∧ (tWrS 162).Rd w [.slice ad e.ds.length cd] e.ds ∧ (tCmdS 38).Rd w [.slice aw e.ws.length cw] e.ws ∧ (tJobS 92).Rd w [.slice aj e.js.length cj] e.js ∧ (tAnsS 55).Rd w [.slice aa e.an.length ca] e.an ∧ (tTurnS 95).Rd w [.slice au e.ts.length cu] e.ts := by
  obtain ⟨vm, vd, vw, vj, va, vu, rfl, h⟩ := h
  obtain ⟨h0, g0⟩ := pair_rd (t := tMemS 214 147) (vs := [_]) rfl h
  obtain ⟨h1, g1⟩ := pair_rd (t := tWrS 162) (vs := [_]) rfl g0
  obtain ⟨h2, g2⟩ := pair_rd (t := tCmdS 38) (vs := [_]) rfl g1
  obtain ⟨h3, g3⟩ := pair_rd (t := tJobS 92) (vs := [_]) rfl g2
  obtain ⟨h4, g4⟩ := pair_rd (t := tAnsS 55) (vs := [_]) rfl g3
  obtain ⟨am, cm, rfl⟩ := row_shape h0
  obtain ⟨ad, cd, rfl⟩ := row_shape h1
  obtain ⟨aw, cw, rfl⟩ := row_shape h2
  obtain ⟨aj, cj, rfl⟩ := row_shape h3
  obtain ⟨aa, ca, rfl⟩ := row_shape h4
  obtain ⟨au, cu, rfl⟩ := row_shape g4
  exact ⟨am, cm, ad, cd, aw, cw, aj, cj, aa, ca, au, cu, rfl, h0, h1, h2, h3, h4, g4⟩
theorem Box.cells17 {w : World} {B : Nat} {T : TypeId} {v0 v1 v2 v3 v4 v5 v6 v7 v8 v9 v10 v11 v12 v13 v14 v15 v16 : Value} (h : Box w B T #[v0, v1, v2, v3, v4, v5, v6, v7, v8, v9, v10, v11, v12, v13, v14, v15, v16]) : w.cell? ⟨B, 0, none⟩ = some v0 ∧ w.cell? ⟨B, 1, none⟩ = some v1 ∧ w.cell? ⟨B, 2, none⟩ = some v2 ∧ w.cell? ⟨B, 3, none⟩ = some v3 ∧ w.cell? ⟨B, 4, none⟩ = some v4 ∧ w.cell? ⟨B, 5, none⟩ = some v5 ∧ w.cell? ⟨B, 6, none⟩ = some v6 ∧ w.cell? ⟨B, 7, none⟩ = some v7 ∧ w.cell? ⟨B, 8, none⟩ = some v8 ∧ w.cell? ⟨B, 9, none⟩ = some v9 ∧ w.cell? ⟨B, 10, none⟩ = some v10 ∧ w.cell? ⟨B, 11, none⟩ = some v11 ∧ w.cell? ⟨B, 12, none⟩ = some v12 ∧ w.cell? ⟨B, 13, none⟩ = some v13 ∧ w.cell? ⟨B, 14, none⟩ = some v14 ∧ w.cell? ⟨B, 15, none⟩ = some v15 ∧ w.cell? ⟨B, 16, none⟩ = some v16 := ⟨h.cell 0, h.cell 1, h.cell 2, h.cell 3, h.cell 4, h.cell 5, h.cell 6, h.cell 7, h.cell 8, h.cell 9, h.cell 10, h.cell 11, h.cell 12, h.cell 13, h.cell 14, h.cell 15, h.cell 16⟩
theorem Tryz.sizeEng : (Tryz.prog.info? 35).map (·.size) = some 17 := by kernel_rfl
theorem EngRd.size {w : World} {cs : Array Value} {e : EngD} (h : EngRd w cs e) : cs.size = 17 := by
  obtain ⟨vm, vd, vw, vj, va, vu, rfl, _⟩ := h
  rfl
theorem EngRd.one {w : World} {cs : Array Value} {e : EngD} (h : EngRd w cs e) : cs.toList.all (·.oneCell') = true := by
  obtain ⟨am, cm, ad, cd, aw, cw, aj, cj, aa, ca, au, cu, rfl, _⟩ := h.parts
  rfl
def wtEng (e : EngD) : Nat := wtArr e.ms e.ds + wttCmdS e.ws + wttJobS e.js + wttAnsS e.an + wttTurnS e.ts

set_option maxRecDepth 20000 in
set_option maxHeartbeats 3200000 in
theorem szEng_any (w : World) (cs : Array Value) (e : EngD) (left : Int) (h : EngRd w cs e) (h0 : 0 ≤ left) (h1 : left ≤ 1048576) :
    Calls Tryz.prog 35 #[.agg cs, .int .i64 left] w fun e' w' => e' = .returned (.int .i64 (leftOf left (wtEng e))) ∧ Below w.heap.size w w' := by
  obtain ⟨x, ms, ds, ws, js, an, ts⟩ := e
  obtain ⟨am, cm, ad, cd, aw, cw, aj, cj, aa, ca, au, cu, rfl, r0, r1, r2, r3, r4, r5⟩ := h.parts
  unfold engC
  have HT : Hid (wtEng ⟨x, ms, ds, ws, js, an, ts⟩ = wtArr ms ds + wttCmdS ws + wttJobS js + wttAnsS an + wttTurnS ts) := rfl
  generalize wtEng ⟨x, ms, ds, ws, js, an, ts⟩ = N at HT ⊢
  go_enter Tryz.func35, Tryz.ntmps35
  go_wp2_with fail
  refine seal_new ?_
  intro V A B
  refine (szArr_any _ 0 0 0 x _ _ _ _ _ _ ms ds left (r0.below B) (r1.below B) (by omega) (by omega)).mono ?_
  rintro e w1 ⟨rfl, b⟩
  have B1 := Below.andThen B b
  have A := A.below b A.lt
  obtain ⟨k0, k1, k2, k3, k4, k5, k6, k7, k8, k9, k10, k11, k12, k13, k14, k15, k16⟩ := A.cells17
  generalize hM0 : wtArr ms ds = M0 at HT ⊢
  clear hM0 b
  by_cases q0 : (M0 : Int) ≤ left
  rotate_left
  · have HF : Hid (leftOf left N = -1) := by unfold Hid; rw [HT.out]; exact leftOf_neg (by omega)
    rw [leftOf_neg (left := left) (wt := M0) (by omega)]
    go_wp2
    go_ret
    exact ⟨ret_int HF.out.symm, B1⟩
  rw [leftOf_pos q0]
  have p0 : ¬ left - (M0 : Int) < 0 := by omega
  go_wp2_with fail
  refine (szCmdS_any _ 0 _ _ _ ws (left - (M0 : Int)) (r2.below B1) (by omega) (by omega)).mono ?_
  rintro e w2 ⟨rfl, b⟩
  have B2 := Below.andThen B1 b
  have A := A.below b A.lt
  obtain ⟨k0, k1, k2, k3, k4, k5, k6, k7, k8, k9, k10, k11, k12, k13, k14, k15, k16⟩ := A.cells17
  generalize hM1 : wttCmdS ws = M1 at HT ⊢
  clear hM1 b
  by_cases q1 : (M1 : Int) ≤ left - (M0 : Int)
  rotate_left
  · have HF : Hid (leftOf left N = -1) := by unfold Hid; rw [HT.out]; exact leftOf_neg (by omega)
    rw [leftOf_neg (left := left - (M0 : Int)) (wt := M1) (by omega)]
    go_wp2
    go_ret
    exact ⟨ret_int HF.out.symm, B2⟩
  rw [leftOf_pos q1]
  have p1 : ¬ left - (M0 : Int) - (M1 : Int) < 0 := by omega
  go_wp2_with fail
  refine (szJobS_any _ 0 _ _ _ js (left - (M0 : Int) - (M1 : Int)) (r3.below B2) (by omega) (by omega)).mono ?_
  rintro e w3 ⟨rfl, b⟩
  have B3 := Below.andThen B2 b
  have A := A.below b A.lt
  obtain ⟨k0, k1, k2, k3, k4, k5, k6, k7, k8, k9, k10, k11, k12, k13, k14, k15, k16⟩ := A.cells17
  generalize hM2 : wttJobS js = M2 at HT ⊢
  clear hM2 b
  by_cases q2 : (M2 : Int) ≤ left - (M0 : Int) - (M1 : Int)
  rotate_left
  · have HF : Hid (leftOf left N = -1) := by unfold Hid; rw [HT.out]; exact leftOf_neg (by omega)
    rw [leftOf_neg (left := left - (M0 : Int) - (M1 : Int)) (wt := M2) (by omega)]
    go_wp2
    go_ret
    exact ⟨ret_int HF.out.symm, B3⟩
  rw [leftOf_pos q2]
  have p2 : ¬ left - (M0 : Int) - (M1 : Int) - (M2 : Int) < 0 := by omega
  go_wp2_with fail
  refine (szAnsS_any _ 0 _ _ _ an (left - (M0 : Int) - (M1 : Int) - (M2 : Int)) (r4.below B3) (by omega) (by omega)).mono ?_
  rintro e w4 ⟨rfl, b⟩
  have B4 := Below.andThen B3 b
  have A := A.below b A.lt
  obtain ⟨k0, k1, k2, k3, k4, k5, k6, k7, k8, k9, k10, k11, k12, k13, k14, k15, k16⟩ := A.cells17
  generalize hM3 : wttAnsS an = M3 at HT ⊢
  clear hM3 b
  by_cases q3 : (M3 : Int) ≤ left - (M0 : Int) - (M1 : Int) - (M2 : Int)
  rotate_left
  · have HF : Hid (leftOf left N = -1) := by unfold Hid; rw [HT.out]; exact leftOf_neg (by omega)
    rw [leftOf_neg (left := left - (M0 : Int) - (M1 : Int) - (M2 : Int)) (wt := M3) (by omega)]
    go_wp2
    go_ret
    exact ⟨ret_int HF.out.symm, B4⟩
  rw [leftOf_pos q3]
  have p3 : ¬ left - (M0 : Int) - (M1 : Int) - (M2 : Int) - (M3 : Int) < 0 := by omega
  go_wp2_with fail
  refine (szTurnS_any _ 0 _ _ _ ts (left - (M0 : Int) - (M1 : Int) - (M2 : Int) - (M3 : Int)) (r5.below B4) (by omega) (by omega)).mono ?_
  rintro e w5 ⟨rfl, b⟩
  have B5 := Below.andThen B4 b
  generalize hM4 : wttTurnS ts = M4 at HT ⊢
  clear hM4 b
  by_cases q4 : (M4 : Int) ≤ left - (M0 : Int) - (M1 : Int) - (M2 : Int) - (M3 : Int)
  rotate_left
  · have HF : Hid (leftOf left N = -1) := by unfold Hid; rw [HT.out]; exact leftOf_neg (by omega)
    rw [leftOf_neg (left := left - (M0 : Int) - (M1 : Int) - (M2 : Int) - (M3 : Int)) (wt := M4) (by omega)]
    go_wp2
    go_ret
    exact ⟨ret_int HF.out.symm, B5⟩
  rw [leftOf_pos q4]
  have p4 : ¬ left - (M0 : Int) - (M1 : Int) - (M2 : Int) - (M3 : Int) - (M4 : Int) < 0 := by omega
  have HF : Hid (leftOf left N = left - (M0 : Int) - (M1 : Int) - (M2 : Int) - (M3 : Int) - (M4 : Int)) := by unfold Hid; rw [HT.out, leftOf_pos (by omega)]; omega
  go_wp2
  go_ret
  exact ⟨ret_int HF.out.symm, B5⟩

set_option maxRecDepth 20000 in
set_option maxHeartbeats 6400000 in
theorem toEng_any (w : World) (cs : Array Value) (e : EngD) (h : EngRd w cs e) (hw : wtEng e ≤ 1048576) :
    Calls Tryz.prog 37 #[.agg cs] w fun e' w' => ∃ cs', e' = .returned (.agg cs') ∧ EngOwn w' w.heap.size w'.heap.size cs' e ∧ Below w.heap.size w w' := by
  obtain ⟨x, ms, ds, ws, js, an, ts⟩ := e
  obtain ⟨am, cm, ad, cd, aw, cw, aj, cj, aa, ca, au, cu, rfl, r0, r1, r2, r3, r4, r5⟩ := h.parts
  unfold engC
  have HT : wtArr ms ds + wttCmdS ws + wttJobS js + wttAnsS an + wttTurnS ts ≤ 1048576 := hw
  clear hw
  go_enter Tryz.func37, Tryz.ntmps37
  go_wp2_with fail
  refine seal_new3 ?_
  intro V0 A R O B
  have zv := O.lt
  refine (toArr_any _ 0 0 0 x _ _ _ _ _ _ ms ds (r0.below B) (r1.below B) (by omega)).mono ?_
  rintro e w1 ⟨bm, bd, rfl, ym, yd, ya, yb, b⟩
  have A := A.below b A.lt
  have R := R.below b R.lt
  have O := O.below b O.lt
  have B := Below.andThen B b
  have z1 := b.size
  obtain ⟨k0, k1, k2, k3, k4, k5, k6, k7, k8, k9, k10, k11, k12, k13, k14, k15, k16⟩ := A.cells17
  obtain ⟨o0, o1, o2, o3, o4, o5, o6, o7, o8, o9, o10, o11, o12, o13, o14, o15, o16⟩ := O.cells17
  have fo := O.frozen
  go_wp2_with fail
  refine seal_at ((((((((((((((O.at.set _ _).set _ _).set _ _).set _ _).set _ _).set _ _).set _ _).set _ _).set _ _).set _ _).set _ _).set _ _).set _ _)) ?_
  intro V1 E
  simp only [List.set_cons_zero, List.set_cons_succ] at E
  have A := E.other A (by omega)
  have R := E.other R (by omega)
  have B := E.below B (by omega)
  have ym := E.own ym (by omega)
  have yd := E.own yd (by omega)
  have z2 := E.size
  have O := E.box
  clear E
  refine (toCmdS_any _ 0 _ _ _ ws (r2.below B) (by omega)).mono ?_
  rintro e w2 ⟨bw, rfl, yw, b⟩
  have A := A.below b A.lt
  have R := R.below b R.lt
  have O := O.below b O.lt
  have B := Below.andThen B b
  have z3 := b.size
  have ym := ym.below b
  have yd := yd.below b
  obtain ⟨k0, k1, k2, k3, k4, k5, k6, k7, k8, k9, k10, k11, k12, k13, k14, k15, k16⟩ := A.cells17
  obtain ⟨o0, o1, o2, o3, o4, o5, o6, o7, o8, o9, o10, o11, o12, o13, o14, o15, o16⟩ := O.cells17
  have fo := O.frozen
  go_wp2_with fail
  refine seal_at ((O.at.set _ _)) ?_
  intro V2 E
  simp only [List.set_cons_zero, List.set_cons_succ] at E
  have A := E.other A (by omega)
  have R := E.other R (by omega)
  have B := E.below B (by omega)
  have ym := E.own ym (by omega)
  have yd := E.own yd (by omega)
  have yw := E.own yw (by omega)
  have z4 := E.size
  have O := E.box
  clear E
  refine (toJobS_any _ 0 _ _ _ js (r3.below B) (by omega)).mono ?_
  rintro e w3 ⟨bj, rfl, yj, b⟩
  have A := A.below b A.lt
  have R := R.below b R.lt
  have O := O.below b O.lt
  have B := Below.andThen B b
  have z5 := b.size
  have ym := ym.below b
  have yd := yd.below b
  have yw := yw.below b
  obtain ⟨k0, k1, k2, k3, k4, k5, k6, k7, k8, k9, k10, k11, k12, k13, k14, k15, k16⟩ := A.cells17
  obtain ⟨o0, o1, o2, o3, o4, o5, o6, o7, o8, o9, o10, o11, o12, o13, o14, o15, o16⟩ := O.cells17
  have fo := O.frozen
  go_wp2_with fail
  refine seal_at ((O.at.set _ _)) ?_
  intro V3 E
  simp only [List.set_cons_zero, List.set_cons_succ] at E
  have A := E.other A (by omega)
  have R := E.other R (by omega)
  have B := E.below B (by omega)
  have ym := E.own ym (by omega)
  have yd := E.own yd (by omega)
  have yw := E.own yw (by omega)
  have yj := E.own yj (by omega)
  have z6 := E.size
  have O := E.box
  clear E
  refine (toAnsS_any _ 0 _ _ _ an (r4.below B) (by omega)).mono ?_
  rintro e w4 ⟨ba, rfl, ya, b⟩
  have A := A.below b A.lt
  have R := R.below b R.lt
  have O := O.below b O.lt
  have B := Below.andThen B b
  have z7 := b.size
  have ym := ym.below b
  have yd := yd.below b
  have yw := yw.below b
  have yj := yj.below b
  obtain ⟨k0, k1, k2, k3, k4, k5, k6, k7, k8, k9, k10, k11, k12, k13, k14, k15, k16⟩ := A.cells17
  obtain ⟨o0, o1, o2, o3, o4, o5, o6, o7, o8, o9, o10, o11, o12, o13, o14, o15, o16⟩ := O.cells17
  have fo := O.frozen
  go_wp2_with fail
  refine seal_at ((O.at.set _ _)) ?_
  intro V4 E
  simp only [List.set_cons_zero, List.set_cons_succ] at E
  have A := E.other A (by omega)
  have R := E.other R (by omega)
  have B := E.below B (by omega)
  have ym := E.own ym (by omega)
  have yd := E.own yd (by omega)
  have yw := E.own yw (by omega)
  have yj := E.own yj (by omega)
  have ya := E.own ya (by omega)
  have z8 := E.size
  have O := E.box
  clear E
  refine (toTurnS_any _ 0 _ _ _ ts (r5.below B) (by omega)).mono ?_
  rintro e w5 ⟨bu, rfl, yu, b⟩
  have A := A.below b A.lt
  have R := R.below b R.lt
  have O := O.below b O.lt
  have B := Below.andThen B b
  have z9 := b.size
  have ym := ym.below b
  have yd := yd.below b
  have yw := yw.below b
  have yj := yj.below b
  have ya := ya.below b
  obtain ⟨k0, k1, k2, k3, k4, k5, k6, k7, k8, k9, k10, k11, k12, k13, k14, k15, k16⟩ := A.cells17
  obtain ⟨o0, o1, o2, o3, o4, o5, o6, o7, o8, o9, o10, o11, o12, o13, o14, o15, o16⟩ := O.cells17
  have fo := O.frozen
  have l1 : w.heap.size + 1 < w.heap.size + 1 + 1 + 1 := by omega
  have l2 : w.heap.size + 1 ≠ w.heap.size + 1 + 1 := by omega
  have l3 := O.lt
  have l4 := A.lt
  have l5 := R.lt
  clear b A
  go_wp2_with (first | (refine wpList_load_box rfl _ _ rfl rfl (O.at.set _ _).box _ Tryz.underlying35 rfl Tryz.sizeEng ?_) | (refine wpList_store_box rfl _ _ _ rfl rfl rfl (R.other l2 _ _) rfl Tryz.sizeEng (by rfl) ?_; intro W X hb hz))
  have hbt := ((But.refl (w.heap.size + 1) (w.heap.size + 1 + 1 + 1) w5).set (g := w.heap.size + 1 + 1) (j := 16) (by omega) (by omega) (.slice bu ts.length ts.length)).trans (hb.widen (Nat.le_refl _) (by omega))
  have pm := ym.but hbt (by omega)
  have pd := yd.but hbt (by omega)
  have pw := yw.but hbt (by omega)
  have pj := yj.but hbt (by omega)
  have pa := ya.but hbt (by omega)
  have pu := yu.but hbt (by omega)
  have K := hidden (Ty.Own.widen (pair_own2 (vs := [_]) (lo := w.heap.size) (hi := w5.heap.size) pm (pair_own2 (vs := [_]) (lo := bd) (hi := w5.heap.size) pd (pair_own2 (vs := [_]) (lo := V1.heap.size) (hi := w5.heap.size) pw (pair_own2 (vs := [_]) (lo := V2.heap.size) (hi := w5.heap.size) pj (pair_own2 (vs := [_]) (lo := V3.heap.size) (hi := w5.heap.size) pa (pu.widen (lo' := V4.heap.size) (hi' := w5.heap.size) (by omega) (by omega)) (by omega) (by omega) (by omega)) (by omega) (by omega) (by omega)) (by omega) (by omega) (by omega)) (by omega) (by omega) (by omega)) (by omega) (by omega) (by omega)) (Nat.le_refl w.heap.size) hbt.size)
  have KB := hidden (Below.andBut B hbt (by omega))
  clear hb hbt hz B R O ym yd yw yj ya yu pm pd pw pj pa pu
  obtain ⟨x0, x1, x2, x3, x4, x5, x6, x7, x8, x9, x10, x11, x12, x13, x14, x15, x16⟩ := X.cells17
  go_wp2
  refine bodyPost_ret (v := .agg #[.int .i64 x.id, .int .i64 x.n, .int .i64 x.s, .slice (some ⟨bm, 0, none⟩) ms.length ms.length, .int .i64 x.lost, .int .i64 x.built, .int .i64 x.seq, .int .i64 x.tail, .int .i64 x.gen, .slice (some ⟨bd, 0, none⟩) ds.length ds.length, .int .i64 x.fuse, .bool x.down, .bool x.broken, .slice bw ws.length ws.length, .slice bj js.length js.length, .slice ba an.length an.length, .slice bu ts.length ts.length]) (by simp [results, Tryz.results37, go_sem, x0, x1, x2, x3, x4, x5, x6, x7, x8, x9, x10, x11, x12, x13, x14, x15, x16]) rfl ⟨_, rfl, ⟨_, _, _, _, _, _, rfl, K.out⟩, KB.out⟩

set_option maxRecDepth 20000 in
set_option maxHeartbeats 3200000 in
theorem eqEng_same (w : World) (cs cs' : Array Value) (e : EngD) (h : EngRd w cs e) (h' : EngRd w cs' e) (hw : wtEng e ≤ 2097152) :
    Calls Tryz.prog 39 #[.agg cs, .agg cs'] w fun e' w' => e' = .returned (.bool true) ∧ Below w.heap.size w w' := by
  obtain ⟨x, ms, ds, ws, js, an, ts⟩ := e
  obtain ⟨am, cm, ad, cd, aw, cw, aj, cj, aa, ca, au, cu, rfl, r0, r1, r2, r3, r4, r5⟩ := h.parts
  obtain ⟨em, gm, ed, gd, ew, gw, ej, gj, ea, ga, eu, gu, rfl, s0, s1, s2, s3, s4, s5⟩ := h'.parts
  unfold engC
  have HT : wtArr ms ds + wttCmdS ws + wttJobS js + wttAnsS an + wttTurnS ts ≤ 2097152 := hw
  clear hw
  obtain ⟨l2, _, _⟩ := row_length r2
  obtain ⟨l3, _, _⟩ := row_length r3
  go_enter Tryz.func39, Tryz.ntmps39
  go_wp2_with fail
  refine seal_new2 ?_
  intro V A X B
  refine (eqArr_same _ 0 0 0 0 0 0 x _ _ _ _ _ _ _ _ _ _ _ _ ms ds (r0.below B) (r1.below B) (s0.below B) (s1.below B) (by omega)).mono ?_
  rintro e w1 ⟨rfl, b⟩
  have B := Below.andThen B b
  have A := A.below b A.lt
  have X := X.below b X.lt
  obtain ⟨k0, k1, k2, k3, k4, k5, k6, k7, k8, k9, k10, k11, k12, k13, k14, k15, k16⟩ := A.cells17
  obtain ⟨o0, o1, o2, o3, o4, o5, o6, o7, o8, o9, o10, o11, o12, o13, o14, o15, o16⟩ := X.cells17
  clear b
  go_wp2_with fail
  refine (eqCmdS_same _ 0 0 _ _ _ _ _ ws (r2.below B) (s2.below B) (by omega)).mono ?_
  rintro e w2 ⟨rfl, b⟩
  have B := Below.andThen B b
  have A := A.below b A.lt
  have X := X.below b X.lt
  obtain ⟨k0, k1, k2, k3, k4, k5, k6, k7, k8, k9, k10, k11, k12, k13, k14, k15, k16⟩ := A.cells17
  obtain ⟨o0, o1, o2, o3, o4, o5, o6, o7, o8, o9, o10, o11, o12, o13, o14, o15, o16⟩ := X.cells17
  clear b
  go_wp2_with fail
  refine (eqJobS_same _ 0 0 _ _ _ _ _ js (r3.below B) (s3.below B) (by omega)).mono ?_
  rintro e w3 ⟨rfl, b⟩
  have B := Below.andThen B b
  have A := A.below b A.lt
  have X := X.below b X.lt
  obtain ⟨k0, k1, k2, k3, k4, k5, k6, k7, k8, k9, k10, k11, k12, k13, k14, k15, k16⟩ := A.cells17
  obtain ⟨o0, o1, o2, o3, o4, o5, o6, o7, o8, o9, o10, o11, o12, o13, o14, o15, o16⟩ := X.cells17
  clear b
  go_wp2_with fail
  refine (eqAnsS_same _ 0 0 _ _ _ _ _ an (r4.below B) (s4.below B) (by omega)).mono ?_
  rintro e w4 ⟨rfl, b⟩
  have B := Below.andThen B b
  have A := A.below b A.lt
  have X := X.below b X.lt
  obtain ⟨k0, k1, k2, k3, k4, k5, k6, k7, k8, k9, k10, k11, k12, k13, k14, k15, k16⟩ := A.cells17
  obtain ⟨o0, o1, o2, o3, o4, o5, o6, o7, o8, o9, o10, o11, o12, o13, o14, o15, o16⟩ := X.cells17
  clear b
  go_wp2_with fail
  refine (eqTurnS_same _ 0 0 _ _ _ _ _ ts (r5.below B) (s5.below B) (by omega)).mono ?_
  rintro e w5 ⟨rfl, b⟩
  have B := Below.andThen B b
  go_wp2
  go_ret
  exact ⟨rfl, B⟩

end Go.Proofs.YtbkkjfgjlapadaaGreat
