/-
 The walks of the program's superOp and of the operation that it makes. No condition but that every disk is right.
-/
import Derived.Test.YtechckninoilhaaGreatRowAdoptAll4
import Derived.Test.YtechckninoilhaaGreatWalkMarkIn
import Derived.Test.YtechckninoilhaaGreatWalkArrOk3
import Derived.Test.YtechckninoilhaaGreatHeld
import Derived.Test.YtechckninoilhaaGreatWalkPutSuper
import Derived.Test.YtechckninoilhaaGreatWalkFail
import Derived.Test.YtechckninoilhaaGreatCode8
import Derived.Test.YtechckninoilhaaGreatOut8
import Derived.Test.YtechckninoilhaaGreatArr7
import Derived.Test.YtechckninoilhaaGreatGrow
import Derived.Recover
import Derived.Test.YtechckninoilhaaGreatWalkArr
import Derived.Test.YtechckninoilhaaGreatBox
import Derived.Deep.Cut
import Derived.Test.YtechckninoilhaaGreatOrder

set_option maxRecDepth 100000
set_option maxHeartbeats 8000000
set_option linter.unusedSimpArgs false

namespace Go.Proofs.YtechckninoilhaaGreat
open Go.RowKit

def ArrOut (w w' : World) (e : Ending) (q : ArrN × List MemD) (ds : List (Int × List Int)) : Prop :=
 ∃ (bm bd : Option Addr) (cm cd : Nat), e = .returned (.agg (arrC q.1 (.slice bm q.2.length cm) (.slice bd ds.length cd))) /\ ArrIn w' w.heap.size w'.heap.size bm bd q.2.length cm ds.length cd q.2 ds /\ Below w.heap.size w w'
theorem Moved.belowN {B N : Nat} {f1 f2 : List Nat} {w1 w2 : World} (h : Moved B f1 w1 f2 w2) (hB : N <= B) (hf : ∀ b ∈ f1, N <= b) (hN : N <= w1.heap.size) : Below N w1 w2 :=
 ⟨h.1.os, h.1.tape, h.1.output, h.1.size, fun k hk => h.1.block k (by omega) (fun hm => by
  rcases List.mem_cons.1 hm with e | hm
  . omega
  have := hf k hm; omega)⟩
theorem arr_facts {x : ArrN} {ms : List MemD} {ds : List (Int × List Int)} (h : arrB x ms ds = true) : x.fuse <= 1000 /\ MsOk ms /\ 0 <= x.gen /\ x.gen <= 60000 := by
 unfold arrB memsB seqB6 at h
 simp only [Bool.and_eq_true, inB_iff] at h
 obtain ⟨_, _, ⟨hm, _⟩, _, _, _, _, _, hg, hf⟩ := h
 refine ⟨hf.2, fun i d hd => ?_, hg.1, hg.2⟩
 have := allIx_iff.1 hm i d hd
 unfold memAt at this
 simp only [Bool.and_eq_true] at this
 exact this.1
theorem arr_out {w w4 : World} {R lo : Nat} {y : ArrN} {ns : List MemD} {ds : List (Int × List Int)} {vm vd : Option Addr} {cvm cvd : Nat} {fm fd : List Nat} {e : Ending} {T : TypeId} {cs : Array Value} (hb : Below w.heap.size w w4) (_ : Box w4 R T cs) (he : e = .returned (.agg (arrC y (.slice vm ns.length cvm) (.slice vd ds.length cvd)))) (hm : (tMemS 109 51).Mine w4 [.slice vm ns.length cvm] ns fm) (hd : (tWrS 82).Mine w4 [.slice vd ds.length cvd] ds fd) (hr : ∀ b ∈ fm, b ∉ fd) (rm : ∀ b ∈ fm, lo <= b) (rd : ∀ b ∈ fd, lo <= b) (h1 : w.heap.size <= R) (h2 : R < lo) :
 ArrOut w (puts w4 R [(0, .int .i64 y.id), (1, .int .i64 y.n), (2, .int .i64 y.s), (3, .slice vm ns.length cvm), (4, .int .i64 y.lost), (5, .int .i64 y.built), (6, .int .i64 y.seq), (7, .int .i64 y.tail), (8, .int .i64 y.gen), (9, .slice vd ds.length cvd), (10, .int .i64 y.fuse), (11, .bool y.down), (12, .bool y.broken)]) e (y, ns) ds := by
 have hbt := puts_but R [(0, .int .i64 y.id), (1, .int .i64 y.n), (2, .int .i64 y.s), (3, .slice vm ns.length cvm), (4, .int .i64 y.lost), (5, .int .i64 y.built), (6, .int .i64 y.seq), (7, .int .i64 y.tail), (8, .int .i64 y.gen), (9, .slice vd ds.length cvd), (10, .int .i64 y.fuse), (11, .bool y.down), (12, .bool y.broken)] w4
 have hz := hbt.size
 have hlm := hm.lt
 have hld := hd.lt
 refine ⟨vm, vd, cvm, cvd, he, ⟨fm, fd, hm.but hbt (fun b hb => by have := rm b hb; omega), hd.but hbt (fun b hb => by have := rd b hb; omega), hr, fun b hb => ?_, fun b hb => ?_⟩, Below.andBut hb hbt h1⟩
 . have h3 := rm b hb
   have h4 := hlm b hb
   omega
 have h3 := rd b hb
 have h4 := hld b hb
 omega

theorem arr_split {x : ArrN} {ms : List MemD} {ds : List (Int × List Int)} : arrB x ms ds = true ↔ geoB x.n x.s = true /\ inB x.id 1 60000 = true /\ memsB x ms = true /\ entsB x ds = true /\ lostB6 x = true /\ seqB6 x = true := by
 unfold arrB
 simp only [Bool.and_eq_true]
theorem mems_iff {x : ArrN} {ms : List MemD} : memsB x ms = true ↔ (∀ (i : Nat) (d : MemD), ms[i]? = some d -> memB d.1 d.2.1 d.2.2.2 = true /\ (d.1.length : Int) = 6 + x.s /\ (d.2.2.1 = true -> (i : Int) = x.lost ∨ x.broken = true)) /\ (ms.length : Int) = x.n := by
 unfold memsB
 rw [Bool.and_eq_true, allIx_iff, decide_eq_true_eq]
 refine and_congr_left fun _ => ?_
 constructor
 . intro h i d hd
   have := h i d hd
   unfold memAt at this
   simp only [Bool.and_eq_true, decide_eq_true_eq, Bool.or_eq_true, Bool.not_eq_true'] at this
   refine ⟨this.1, this.2.1, fun hf => ?_⟩
   rcases this.2.2 with h | h | h
   . rw [hf] at h; cases h
   . exact .inl h
   exact .inr h
 intro h i d hd
 obtain ⟨h1, h2, h3⟩ := h i d hd
 unfold memAt
 simp only [Bool.and_eq_true, decide_eq_true_eq, Bool.or_eq_true, Bool.not_eq_true']
 refine ⟨h1, h2, ?_⟩
 cases hf : d.2.2.1
 . exact .inl rfl
 exact .inr (h3 hf)

theorem l7Op_any (w : World) (B : Nat) (x : ArrN) (ms : List MemD) (ds : List (Int × List Int)) (fm fd : List Nat) (h : ArrAt w B x ms ds fm fd) (hf : x.fuse <= 1000) :
 Calls Tryz.prog 128 #[.pointer (some ⟨B, 0, none⟩)] w fun e w' => e = .returned (.bool (opB x)) /\ ArrAt w' B (opX x) ms ds fm fd /\ Moved B fm w fm w' := by
 obtain ⟨bm, bd, cm, cd, X, hm, hd, hr, r1, r2⟩ := h
 unfold arrC at X
 obtain ⟨k0, k1, k2, k3, k4, k5, k6, k7, k8, k9, k10, k11, k12⟩ := X.cells13
 have fz := X.frozen
 cases hdn : x.down
 . rw [hdn] at k11
   by_cases h0 : x.fuse = 0
   . have HB : Hid (opB x = false) := by unfold Hid opB; simp [h0]
     have HX : Hid (opX x = {x with down := true, fuse := -1}) := by unfold Hid opX; rw [if_neg (by simp [hdn]), if_pos h0]
     have Y := (X.set 11 (.bool true)).set 10 (.int .i64 (-1))
     have M := hidden ((hm.setCell (g := B) (j := 11) r1 (.bool true)).setCell (g := B) (j := 10) r1 (.int .i64 (-1)))
     have D := hidden ((hd.setCell (g := B) (j := 11) r2 (.bool true)).setCell (g := B) (j := 10) r2 (.int .i64 (-1)))
     have MV := hidden ((Moved.set (B := B) (j := 11) (fm := fm) (w := w) (.bool true)).trans (Moved.set (B := B) (j := 10) (.int .i64 (-1))))
     have YH := hidden Y
     rw [h0] at k10
     clear Y X hm hd hdn h0
     go_enter Tryz.func128, Tryz.ntmps128
     go_wp2
     go_ret
     exact ⟨ret_bool HB.out.symm, by rw [HX.out]; exact ⟨bm, bd, cm, cd, YH.out, M.out, D.out, hr, r1, r2⟩, MV.out⟩
   have e0 : (x.fuse == 0) = false := by simpa using h0
   have HB : Hid (opB x = true) := by unfold Hid opB; simp [h0, hdn]
   by_cases h1 : 0 < x.fuse
   . have hw : IntKind.i64.wrap (x.fuse - 1) = x.fuse - 1 := IntWalk.i64_in _ (by omega)
     have HX : Hid (opX x = {x with fuse := x.fuse - 1}) := by unfold Hid opX; rw [if_neg (by simp [hdn]), if_neg h0, if_pos h1]
     have YH := hidden (X.set 10 (.int .i64 (x.fuse - 1)))
     have M := hidden (hm.setCell (g := B) (j := 10) r1 (.int .i64 (x.fuse - 1)))
     have D := hidden (hd.setCell (g := B) (j := 10) r2 (.int .i64 (x.fuse - 1)))
     have MV := hidden (Moved.set (B := B) (j := 10) (fm := fm) (w := w) (.int .i64 (x.fuse - 1)))
     clear X hm hd hdn h0
     go_enter Tryz.func128, Tryz.ntmps128
     go_wp2
     go_ret
     exact ⟨ret_bool HB.out.symm, by rw [HX.out]; exact ⟨bm, bd, cm, cd, YH.out, M.out, D.out, hr, r1, r2⟩, MV.out⟩
   have HX : Hid (opX x = x) := by unfold Hid opX; rw [if_neg (by simp [hdn]), if_neg h0, if_neg h1]
   have YH := hidden X
   clear hdn h0 X
   go_enter Tryz.func128, Tryz.ntmps128
   go_wp2
   go_ret
   exact ⟨ret_bool HB.out.symm, by rw [HX.out]; exact ⟨bm, bd, cm, cd, YH.out, hm, hd, hr, r1, r2⟩, Moved.refl _ _ _⟩
 have HB : Hid (opB x = false) := by unfold Hid opB; simp [hdn]
 have HX : Hid (opX x = x) := by unfold Hid opX; rw [if_pos hdn]
 rw [hdn] at k11
 have YH := hidden X
 clear hdn X
 go_enter Tryz.func128, Tryz.ntmps128
 go_wp2
 go_ret
 exact ⟨ret_bool HB.out.symm, by rw [HX.out]; exact ⟨bm, bd, cm, cd, YH.out, hm, hd, hr, r1, r2⟩, Moved.refl _ _ _⟩

theorem l7Put_any (w : World) (B : Nat) (x : ArrN) (ms : List MemD) (ds : List (Int × List Int)) (fm fd : List Nat) (h : ArrAt w B x ms ds fm fd) (hf : x.fuse <= 1000) (hM : MsOk ms) (m : Nat) (hm : m < ms.length) (n : Int) (a5 : Option Addr) (n5 c5 : Nat) (sw : List Int) (f5 : List Nat) (h5 : tIntS.Mine w [.slice a5 n5 c5] sw f5) (h5B : B ∉ f5) (h5f : ∀ b ∈ f5, b ∉ fm) (hn5 : n5 <= 2097152) :
 Calls Tryz.prog 91 #[.pointer (some ⟨B, 0, none⟩), .int .i64 (m : Int), .int .i64 n, .slice a5 n5 c5] w fun e w' => e = .returned (.tuple #[]) /\ ∃ fm', ArrAt w' B (putS (x, ms) m n sw).1 (putS (x, ms) m n sw).2 ds fm' fd /\ Moved B fm w fm' w' := by
 have h00 := h
 obtain ⟨bm, bd, cm, cd, X, hmm, hdd, hr, r1, r2⟩ := h
 unfold arrC at X
 obtain ⟨g, rfl⟩ := row_head hmm (by omega)
 have hdj : ms[m]? = some (ms[m]'hm) := List.getElem?_eq_getElem hm
 generalize ms[m]'hm = d at hdj
 obtain ⟨hgl, a0, a1, a3, c0, c1, c3, ss, cs, f, bs, rfl, q0, q1, q2, q3, _, _, _⟩ := disk_at hmm hdj
 obtain ⟨k0, k1, k2, k3, k4, k5, k6, k7, k8, k9, k10, k11, k12⟩ := X.cells13
 have i1 : (0 : Int) <= (m : Int) := by omega
 have i2 : (m : Int) < (ms.length : Int) := by omega
 cases f
 . have H0 := hidden h00
   clear X hmm hdd hgl q0 q1 q3
   go_enter Tryz.func91, Tryz.ntmps91
   go_wp2_with fail
   refine (l7Op_any _ B x ms ds fm fd H0.out hf).mono ?_
   rintro e w1 ⟨rfl, hA1, hMv1⟩
   clear k0 k1 k2 k3 k4 k5 k6 k7 k8 k9 k10 k11 k12 q2 H0 h00
   cases ho : opB x
   . have HP : Hid (putS (x, ms) m n sw = (opX x, ms)) := doS_no hdj rfl ho
     go_wp2
     refine bodyPost_ret (v := .tuple #[]) (by simp [results, Tryz.results91, go_sem]) rfl ?_
     exact ⟨rfl, fm, by rw [HP.out]; exact hA1, hMv1⟩
   have HP : Hid (putS (x, ms) m n sw = (opX x, ms.set m (wrM (ss, cs, false, bs) n sw))) := doS_yes hdj rfl ho
   obtain ⟨bm, bd, cm, cd, X, hmm, hdd, hr, r1, r2⟩ := hA1
   obtain ⟨g, rfl⟩ := row_head hmm (by omega)
   obtain ⟨hgl, a0, a1, a3, c0, c1, c3, ss, cs, f, bs, hde, q0, q1, q2, q3, p0, p1, p3⟩ := disk_at hmm hdj
   simp only [Prod.mk.injEq] at hde
   obtain ⟨rfl, rfl, rfl, rfl⟩ := hde
   have X0 := X
   unfold arrC at X0
   obtain ⟨k0, k1, k2, k3, k4, k5, k6, k7, k8, k9, k10, k11, k12⟩ := X0.cells13
   have hwt := memB_light (hM m _ hdj) false
   dsimp only at hwt
   have XH := hidden X
   have MH := hidden hmm
   have DH := hidden hdd
   have MV := hidden hMv1
   have DJ := hidden hdj
   have h51 := (hMv1.mine h5 h5B h5f).rd
   clear X X0 hmm hdd hMv1 hdj
   go_wp2_with fail
   refine (specWriteSec_any _ 109 _ _ _ _ _ _ _ _ _ _ _ _ ss cs false bs n sw p0 p1 p3 h51 (by omega) hn5).mono ?_
   rintro e w2 ⟨u0, u1, u3, rfl, o2, b2⟩
   obtain ⟨d0, l0, f0, d1, l1, f1, d3, l3, f3, hv0, hv1, hv3⟩ := mem_slices o2
   subst hv0 hv1 hv3
   have b3 := new_below w2 (.cells #[.slice d0 l0 f0, .slice d1 l1 f1, .bool false, .slice d3 l3 f3] 51)
   have b13 : Below w1.heap.size w1 (w2.alloc (.cells #[.slice d0 l0 f0, .slice d1 l1 f1, .bool false, .slice d3 l3 f3] 51)) := Below.andThen b2 b3
   have Y3 := Box.new w2 51 #[.slice d0 l0 f0, .slice d1 l1 f1, .bool false, .slice d3 l3 f3]
   have zY := Y3.lt
   have z2 := b2.size
   obtain ⟨fpx, mx, rx⟩ := (o2.below b3).mine
   obtain ⟨cOld, fz, hgm, fm9, hA9, hMv9⟩ := arr_store XH.out MH.out DH.out hr r1 r2 b13 hm mx (fun b hb => (rx b hb).1)
   obtain ⟨o0, t0⟩ := cOld 0 (by omega)
   obtain ⟨o1, t1⟩ := cOld 1 (by omega)
   obtain ⟨o2', t2⟩ := cOld 2 (by omega)
   obtain ⟨o3, t3⟩ := cOld 3 (by omega)
   rw [Nat.add_zero] at t0
   have HA := hidden hA9
   have HMV := hidden (MV.out.trans hMv9)
   have X3 := XH.out.below b13 XH.out.lt
   unfold arrC at X3
   have gB : ¬ g = B := fun e => r1 (e ▸ hgm)
   have gY : ¬ g = w2.heap.size := by omega
   obtain ⟨y0, y1, y2, y3⟩ := Y3.cells4
   have x3 := X3.cells13.2.2.2.1
   have hS : (w2.alloc (.cells #[.slice d0 l0 f0, .slice d1 l1 f1, .bool false, .slice d3 l3 f3] 51)).drew.cell? ⟨B, 3, none⟩ = some (.slice (some ⟨g, 0, none⟩) ms.length cm) /\ (w2.alloc (.cells #[.slice d0 l0 f0, .slice d1 l1 f1, .bool false, .slice d3 l3 f3] 51)).drew.cell? ⟨w2.heap.size, 0, none⟩ = some (.slice d0 l0 f0) /\ (w2.alloc (.cells #[.slice d0 l0 f0, .slice d1 l1 f1, .bool false, .slice d3 l3 f3] 51)).drew.cell? ⟨w2.heap.size, 1, none⟩ = some (.slice d1 l1 f1) /\ (w2.alloc (.cells #[.slice d0 l0 f0, .slice d1 l1 f1, .bool false, .slice d3 l3 f3] 51)).drew.cell? ⟨w2.heap.size, 2, none⟩ = some (.bool false) /\ (w2.alloc (.cells #[.slice d0 l0 f0, .slice d1 l1 f1, .bool false, .slice d3 l3 f3] 51)).drew.cell? ⟨w2.heap.size, 3, none⟩ = some (.slice d3 l3 f3) := ⟨x3, y0, y1, y2, y3⟩
   unfold put4 at HA HMV
   clear k0 k1 k2 k3 k4 k5 k6 k7 k8 k9 k10 k11 k12 q0 q1 q2 q3 p0 p1 p3 h51 o2 b2 b3 b13 Y3 mx rx cOld hA9 hMv9 X3 x3 XH MH DH MV hwt
   go_wp2_with fail
   refine Upto.start (S := fun w' => w'.cell? ⟨B, 3, none⟩ = some (.slice (some ⟨g, 0, none⟩) ms.length cm) /\ w'.cell? ⟨w2.heap.size, 0, none⟩ = some (.slice d0 l0 f0) /\ w'.cell? ⟨w2.heap.size, 1, none⟩ = some (.slice d1 l1 f1) /\ w'.cell? ⟨w2.heap.size, 2, none⟩ = some (.bool false) /\ w'.cell? ⟨w2.heap.size, 3, none⟩ = some (.slice d3 l3 f3)) (k := 7) (by kernel_rfl) ?_
   refine Upto.t 0 hS ?_
   refine Upto.t 1 hS ?_
   refine Upto.t 2 hS ?_
   refine Upto.t 3 hS ?_
   refine Upto.t 4 hS ?_
   refine Upto.t 5 hS ?_
   refine Upto.t 6 hS ?_
   refine Upto.one (i := 7) (by kernel_rfl) rfl (fun K hK => ?_)
   go_simp
   refine hK.out _ _ (fun h => absurd rfl h) ?_
   clear hK K
   refine Upto.done (by kernel_rfl) ?_ _
   clear hS y0 y1 y2 y3 t0 t1 t2 t3 fz
   go_wp2
   refine bodyPost_end (v := .tuple #[]) (results_none rfl _ _ _) rfl ?_
   exact ⟨rfl, fm9, by rw [HP.out]; exact HA.out.drew, HMV.out.drew⟩
 have HP : Hid (putS (x, ms) m n sw = (x, ms)) := doS_failed hdj rfl
 clear X hmm hdd hgl q0 q1 q3
 go_enter Tryz.func91, Tryz.ntmps91
 go_wp2
 refine bodyPost_ret (v := .tuple #[]) (by simp [results, Tryz.results91, go_sem]) rfl ?_
 exact ⟨rfl, fm, by rw [HP.out]; exact h00, Moved.refl _ _ _⟩

theorem wr_mine_inv {w : World} {vs : List Value} {x : Int × List Int} {fp : List Nat} (h : tWr.Mine w vs x fp) : ∃ a cap, vs = [.int .i64 x.1, .slice a x.2.length cap] /\ tIntS.Mine w [.slice a x.2.length cap] x.2 fp := by
 have hl : vs.length = 2 := tWr.rdLen (tWr.owRd h.1)
 match vs, hl, h with
 | [u0, u1], _, h =>
  obtain ⟨f1, f2, hf, m1, m2, _⟩ := pair_mine (t := intTy) (u := tIntS) (vs := [u0]) (us := [u1]) rfl h
  obtain ⟨e1, e2⟩ := m1.1
  subst e2
  obtain ⟨a, cap, rfl⟩ := row_shape m2.rd
  refine ⟨a, cap, by simpa using e1, ?_⟩
  rw [hf]
  exact m2
theorem Turned.adrew {fp : List Nat} {w w' : World} (h : Turned fp w w') : Turned fp w w'.drew := ⟨h.os, h.tape, h.output, h.size, h.block⟩
theorem Ty.Mine.adrew {t : Ty} {w : World} {vs : List Value} {d : t.D} {fp : List Nat} (h : t.Mine w vs d fp) : t.Mine w.drew vs d fp := h.kept (Turned.adrew (Turned.refl [] w)) (by simp)
theorem cache_parts {w : World} {E : TypeId} {lo hi n cap : Nat} {b : Option Addr} {cs : List (Int × List Int)} (h : (tWrS E).Own w lo hi [.slice b n cap] cs) :
 ∃ (gC : Nat) (F : Nat -> List Nat), (n = 0 ∨ (b = some ⟨gC, 0, none⟩ /\ lo <= gC /\ gC < hi)) /\ (∀ i x, cs[i]? = some x -> ∃ a c, tIntS.Mine w [.slice a x.2.length c] x.2 (F i) /\ (∀ b ∈ F i, lo <= b /\ b < hi) /\ w.cell? ⟨gC, i * 2, none⟩ = some (.int .i64 x.1) /\ w.cell? ⟨gC, i * 2 + 1, none⟩ = some (.slice a x.2.length c)) /\ ∀ i j, i < j -> j < cs.length -> ∀ b ∈ F i, b ∉ F j := by
 have hl := (row_length h.rd).1
 rcases h.rowShape with h0 | ⟨g, rfl⟩
 . refine ⟨0, fun _ => [], .inl h0, fun i x hx => ?_, by simp⟩
   have := (List.getElem?_eq_some_iff.1 hx).1
   omega
 obtain ⟨fp, m, r⟩ := h.mine
 obtain ⟨hg, F, h1, h2⟩ := row_parts m
 refine ⟨g, F, .inr ⟨rfl, r g hg⟩, fun i x hx => ?_, h2⟩
 obtain ⟨vs, m1, _, m3, m4⟩ := h1 i x hx
 obtain ⟨a, c, rfl, m5⟩ := wr_mine_inv m1
 exact ⟨a, c, m5, fun b hb => r b (m3 b hb), m4 0 (by decide), m4 1 (by decide)⟩

theorem specFlushMem_any (w : World) (E : TypeId) (a0 a1 a3 : Option Addr) (n0 c0 n1 c1 n3 c3 : Nat) (ss : List (List Int)) (cs : List (Int × List Int)) (f : Bool) (bs : List Int) (h0 : tIntSS.Rd w [.slice a0 n0 c0] ss) (h1 : (tWrS E).Rd w [.slice a1 n1 c1] cs) (h3 : tIntS.Rd w [.slice a3 n3 c3] bs) (hw : wtMem (ss, cs, f, bs) <= 2097152) :
 Calls Tryz.prog 141 #[.agg #[.slice a0 n0 c0, .slice a1 n1 c1, .bool f, .slice a3 n3 c3]] w fun e w' => ∃ v0 v1 v3, e = .returned (.agg #[v0, v1, .bool f, v3]) /\ (tMem 109).Own w' w.heap.size w'.heap.size [v0, v1, .bool f, v3] (flSS ss cs f bs, flCS ss cs f bs, f, bs) /\ Below w.heap.size w w' := by
 obtain ⟨hl0, _, hm0⟩ := row_length h0
 obtain ⟨hl1, _, hm1⟩ := row_length h1
 obtain ⟨hl3, _, hm3⟩ := row_length h3
 have hwc : wtWrS cs <= 2097152 := by unfold wtMem at hw; simp only at hw; omega
 by_cases hM : memB ss cs bs = true
 . have hn20 : n0 <= 20 := by have := mem_secs hM; omega
   have hks := mem_writes hM
   by_cases hf : f = true
   . subst hf
     have e1 : flSS ss cs true bs = ss := by unfold flSS; simp
     have e2 : flCS ss cs true bs = cs := by unfold flCS; simp
     rw [e1, e2]
     clear e1 e2
     have hA : Below w.heap.size w ((w.alloc (.cells #[.slice a0 n0 c0, .slice a1 n1 c1, .bool true, .slice a3 n3 c3] 51)).alloc (.cells #[.slice none 0 0, .slice none 0 0, .bool false, .slice none 0 0] 51)) := ((Below.refl _ _).alloc (Nat.le_refl _) _).alloc (by simp) _
     have xm : Box ((w.alloc (.cells #[.slice a0 n0 c0, .slice a1 n1 c1, .bool true, .slice a3 n3 c3] 51)).alloc (.cells #[.slice none 0 0, .slice none 0 0, .bool false, .slice none 0 0] 51)) w.heap.size 51 #[.slice a0 n0 c0, .slice a1 n1 c1, .bool true, .slice a3 n3 c3] := (Box.new w _ _).alloc _
     have xr : Box ((w.alloc (.cells #[.slice a0 n0 c0, .slice a1 n1 c1, .bool true, .slice a3 n3 c3] 51)).alloc (.cells #[.slice none 0 0, .slice none 0 0, .bool false, .slice none 0 0] 51)) (w.heap.size + 1) 51 #[.slice none 0 0, .slice none 0 0, .bool false, .slice none 0 0] := by
      have := Box.new (w.alloc (.cells #[.slice a0 n0 c0, .slice a1 n1 c1, .bool true, .slice a3 n3 c3] 51)) 51 #[.slice none 0 0, .slice none 0 0, .bool false, .slice none 0 0]
      rw [show (w.alloc (.cells #[.slice a0 n0 c0, .slice a1 n1 c1, .bool true, .slice a3 n3 c3] 51)).heap.size = w.heap.size + 1 by simp] at this
      exact this
     go_enter Tryz.func141, Tryz.ntmps141
     go_wp2_with fail
     generalize hW : (w.alloc (.cells #[.slice a0 n0 c0, .slice a1 n1 c1, .bool true, .slice a3 n3 c3] 51)).alloc (.cells #[.slice none 0 0, .slice none 0 0, .bool false, .slice none 0 0] 51) = W at hA xm xr ⊢
     clear hW
     have zr := xr.lt
     obtain ⟨q0, q1, q2, q3⟩ := xm.cells4
     have XM := hidden xm
     have XR := hidden xr
     clear xm xr
     refine (l2Copy_any _ E _ _ _ _ _ _ _ _ _ ss cs true bs (h0.below hA) (h1.below hA) (h3.below hA) hw).mono ?_
     intro e w1 hc
     obtain ⟨b0, b1, b3, e0, e1, e3, m1, m2, rfl, o3, o0, o1, r1, r2, r3, bb⟩ := copy_shapes hl0 hl1 hl3 hc
     clear hc
     have z1 := bb.size
     have sW : w.heap.size + 2 <= W.heap.size := by omega
     have ba : Below w1.heap.size w1 (w1.alloc (.cells #[.slice b0 n0 e0, .slice b1 n1 e1, .bool true, .slice b3 n3 e3] 51)) := (Below.refl _ _).alloc (Nat.le_refl _) _
     have yo := Box.new w1 51 #[.slice b0 n0 e0, .slice b1 n1 e1, .bool true, .slice b3 n3 e3]
     have zo := yo.lt
     have YO := hidden yo
     have YR := hidden ((XR.out.below bb zr).below ba (by omega))
     have YM := hidden ((XM.out.below bb (by omega)).below ba (by omega))
     have K0 := hidden (o0.below ba)
     have K1 := hidden (o1.below ba)
     have K3 := hidden (o3.below ba)
     have KB := hidden (hA.trans ((bb.mono (by omega : w.heap.size <= W.heap.size)).trans (ba.mono (by omega))))
     clear yo o0 o1 o3 XM XR bb ba hA q0 q1 q2 q3
     obtain ⟨q0, q1, q2, q3⟩ := YM.out.cells4
     go_wp2_with fail
     generalize w1.alloc (.cells #[.slice b0 n0 e0, .slice b1 n1 e1, .bool true, .slice b3 n3 e3] 51) = w2 at YO YR YM K0 K1 K3 KB zo q0 q1 q2 q3 ⊢
     refine (specMemOk_any _ E _ _ _ _ _ _ _ _ _ ss cs true bs (h0.below KB.out) (h1.below KB.out) (h3.below KB.out) hw).mono ?_
     rintro e w3 ⟨rfl, b4⟩
     have z3 := b4.size
     have XO := hidden (YO.out.below b4 (by omega))
     have XR := hidden (YR.out.below b4 (by omega))
     have XM := hidden (YM.out.below b4 (by omega))
     have L0 := hidden (K0.out.below b4)
     have L1 := hidden (K1.out.below b4)
     have L3 := hidden (K3.out.below b4)
     have LB := hidden (KB.out.trans (b4.mono (by have := KB.out.size; omega)))
     clear YO YR YM K0 K1 K3 KB b4 q0 q1 q2 q3
     obtain ⟨q0, q1, q2, q3⟩ := XM.out.cells4
     obtain ⟨x0, x1, x2, x3⟩ := XO.out.cells4
     obtain ⟨p0, p1, p2, p3⟩ := XR.out.cells4
     have fz := XR.out.frozen
     have hbt : But (w.heap.size + 1) (w.heap.size + 2) w3 ((((w3.setCell ⟨w.heap.size + 1, 0, none⟩ (.slice b0 n0 e0)).setCell ⟨w.heap.size + 1, 1, none⟩ (.slice b1 n1 e1)).setCell ⟨w.heap.size + 1, 2, none⟩ (.bool true)).setCell ⟨w.heap.size + 1, 3, none⟩ (.slice b3 n3 e3)) :=
      (((But.setCell (by omega) (by omega) _).trans (But.setCell (by omega) (by omega) _)).trans (But.setCell (by omega) (by omega) _)).trans (But.setCell (by omega) (by omega) _)
     have z9 := hbt.size
     have FIN : Hid ((tMem 109).Own ((((w3.setCell ⟨w.heap.size + 1, 0, none⟩ (.slice b0 n0 e0)).setCell ⟨w.heap.size + 1, 1, none⟩ (.slice b1 n1 e1)).setCell ⟨w.heap.size + 1, 2, none⟩ (.bool true)).setCell ⟨w.heap.size + 1, 3, none⟩ (.slice b3 n3 e3)) w.heap.size ((((w3.setCell ⟨w.heap.size + 1, 0, none⟩ (.slice b0 n0 e0)).setCell ⟨w.heap.size + 1, 1, none⟩ (.slice b1 n1 e1)).setCell ⟨w.heap.size + 1, 2, none⟩ (.bool true)).setCell ⟨w.heap.size + 1, 3, none⟩ (.slice b3 n3 e3)).heap.size [.slice b0 n0 e0, .slice b1 n1 e1, .bool true, .slice b3 n3 e3] (ss, cs, true, bs)) := mem_own3 (L0.out.but hbt (by omega)) (L1.out.but hbt (by omega)) (L3.out.but hbt (by omega)) (by omega) (by omega) (by omega) (by omega) (by omega) (by omega)
     have FB := hidden (Below.andBut LB.out hbt (by omega))
     clear hbt
     go_wp2
     refine bodyPost_ret (v := .agg #[.slice b0 n0 e0, .slice b1 n1 e1, .bool true, .slice b3 n3 e3]) (by simp [results, Tryz.results141, go_sem, p0, p1, p2, p3]) rfl ?_
     exact ⟨_, _, _, rfl, FIN.out, FB.out⟩
   have hf : f = false := by simpa using hf
   subst hf
   have e1 : flSS ss cs false bs = flushD ss cs := by unfold flSS; simp [hM]
   have e2 : flCS ss cs false bs = [] := by unfold flCS; simp [hM]
   rw [e1, e2]
   clear e1 e2
   have hA : Below w.heap.size w ((w.alloc (.cells #[.slice a0 n0 c0, .slice a1 n1 c1, .bool false, .slice a3 n3 c3] 51)).alloc (.cells #[.slice none 0 0, .slice none 0 0, .bool false, .slice none 0 0] 51)) := ((Below.refl _ _).alloc (Nat.le_refl _) _).alloc (by simp) _
   have xm : Box ((w.alloc (.cells #[.slice a0 n0 c0, .slice a1 n1 c1, .bool false, .slice a3 n3 c3] 51)).alloc (.cells #[.slice none 0 0, .slice none 0 0, .bool false, .slice none 0 0] 51)) w.heap.size 51 #[.slice a0 n0 c0, .slice a1 n1 c1, .bool false, .slice a3 n3 c3] := (Box.new w _ _).alloc _
   have xr : Box ((w.alloc (.cells #[.slice a0 n0 c0, .slice a1 n1 c1, .bool false, .slice a3 n3 c3] 51)).alloc (.cells #[.slice none 0 0, .slice none 0 0, .bool false, .slice none 0 0] 51)) (w.heap.size + 1) 51 #[.slice none 0 0, .slice none 0 0, .bool false, .slice none 0 0] := by
    have := Box.new (w.alloc (.cells #[.slice a0 n0 c0, .slice a1 n1 c1, .bool false, .slice a3 n3 c3] 51)) 51 #[.slice none 0 0, .slice none 0 0, .bool false, .slice none 0 0]
    rw [show (w.alloc (.cells #[.slice a0 n0 c0, .slice a1 n1 c1, .bool false, .slice a3 n3 c3] 51)).heap.size = w.heap.size + 1 by simp] at this
    exact this
   go_enter Tryz.func141, Tryz.ntmps141
   go_wp2_with fail
   generalize hW : (w.alloc (.cells #[.slice a0 n0 c0, .slice a1 n1 c1, .bool false, .slice a3 n3 c3] 51)).alloc (.cells #[.slice none 0 0, .slice none 0 0, .bool false, .slice none 0 0] 51) = W at hA xm xr ⊢
   clear hW
   have zr := xr.lt
   obtain ⟨q0, q1, q2, q3⟩ := xm.cells4
   have XM := hidden xm
   have XR := hidden xr
   clear xm xr
   refine (l2Copy_any _ E _ _ _ _ _ _ _ _ _ ss cs false bs (h0.below hA) (h1.below hA) (h3.below hA) hw).mono ?_
   intro e w1 hc
   obtain ⟨b0, b1, b3, e0, e1, e3, m1, m2, rfl, o3, o0, o1, r1, r2, r3, bb⟩ := copy_shapes hl0 hl1 hl3 hc
   clear hc
   have z1 := bb.size
   have sW : w.heap.size + 2 <= W.heap.size := by omega
   have ba : Below w1.heap.size w1 (w1.alloc (.cells #[.slice b0 n0 e0, .slice b1 n1 e1, .bool false, .slice b3 n3 e3] 51)) := (Below.refl _ _).alloc (Nat.le_refl _) _
   have yo := Box.new w1 51 #[.slice b0 n0 e0, .slice b1 n1 e1, .bool false, .slice b3 n3 e3]
   have zo := yo.lt
   have YO := hidden yo
   have YR := hidden ((XR.out.below bb zr).below ba (by omega))
   have YM := hidden ((XM.out.below bb (by omega)).below ba (by omega))
   have K0 := hidden (o0.below ba)
   have K1 := hidden (o1.below ba)
   have K3 := hidden (o3.below ba)
   have KB := hidden (hA.trans ((bb.mono (by omega : w.heap.size <= W.heap.size)).trans (ba.mono (by omega))))
   clear yo o0 o1 o3 XM XR bb ba hA q0 q1 q2 q3
   obtain ⟨q0, q1, q2, q3⟩ := YM.out.cells4
   go_wp2_with fail
   generalize w1.alloc (.cells #[.slice b0 n0 e0, .slice b1 n1 e1, .bool false, .slice b3 n3 e3] 51) = w2 at YO YR YM K0 K1 K3 KB zo q0 q1 q2 q3 ⊢
   refine (specMemOk_any _ E _ _ _ _ _ _ _ _ _ ss cs false bs (h0.below KB.out) (h1.below KB.out) (h3.below KB.out) hw).mono ?_
   rintro e w3 ⟨rfl, b4⟩
   have z3 := b4.size
   have XO := hidden (YO.out.below b4 (by omega))
   have XR := hidden (YR.out.below b4 (by omega))
   have XM := hidden (YM.out.below b4 (by omega))
   have L0 := hidden (K0.out.below b4)
   have L1 := hidden (K1.out.below b4)
   have L3 := hidden (K3.out.below b4)
   have LB := hidden (KB.out.trans (b4.mono (by have := KB.out.size; omega)))
   clear YO YR YM K0 K1 K3 KB b4 q0 q1 q2 q3
   obtain ⟨q0, q1, q2, q3⟩ := XM.out.cells4
   obtain ⟨x0, x1, x2, x3⟩ := XO.out.cells4
   have hn1' : 0 < n0 := by have := mem_some hM; omega
   obtain ⟨gS, hb0⟩ : ∃ gS, b0 = some ⟨gS, 0, none⟩ := by
    rcases L0.out.rowShape with h | ⟨g, h⟩
    . omega
    exact ⟨g, h⟩
   subst hb0
   obtain ⟨fpS0, mS0, rS0⟩ := L0.out.mine
   have hgS := rS0 gS (row_parts mS0).1
   obtain ⟨gC, FC, hC0, hC1, hC2⟩ := cache_parts L1.out
   have MS0 := hidden mS0
   have RS0 := hidden rS0
   have HC1 := hidden hC1
   have HC2 := hidden hC2
   clear mS0 rS0 hC1 hC2
   go_wp2
   clear x0 x1 x2 x3
   go_loopw [4] (fun i wr => ∃ (j : Nat) (fpS : List Nat), j <= n1 /\ i = .int .i64 j /\ Turned [gS] w3 wr /\ tIntSS.Mine wr [.slice (some ⟨gS, 0, none⟩) n0 e0] (flushD ss (cs.take j)) fpS /\ (∀ b ∈ fpS, (m1 <= b /\ b < m2) ∨ ∃ i, i < j /\ b ∈ FC i)) (fun i _ => n1 - (intOf i).toNat)
   case atStart => exact ⟨0, fpS0, Nat.zero_le _, rfl, Turned.refl _ _, by rw [List.take_zero, flushD_nil]; exact MS0.out, fun b hb => .inl (RS0.out b hb)⟩
   obtain ⟨j, fpS, hj, rfl, tn, hS, hfp⟩ := hrel
   have hs := tn.size
   have xo := XO.out.turned tn (by simp; omega)
   obtain ⟨y0, y1, y2, y3⟩ := xo.cells4
   by_cases hjn : j < n1
   . have k1 : (0 : Int) <= (j : Int) := by omega
     have k2 : (j : Int) < (n1 : Int) := by omega
     rcases hC0 with hC0 | ⟨rfl, hC3, hC4⟩
     . omega
     have hdj : cs[j]? = some (cs[j]'(by omega)) := List.getElem?_eq_getElem (by omega)
     have htk : cs.take (j + 1) = cs.take j ++ [cs[j]'(by omega)] := List.take_succ_eq_append_getElem (by omega)
     have hmem : cs[j]'(by omega) ∈ cs := List.getElem_mem _
     generalize cs[j]'(by omega) = x at hdj htk hmem
     obtain ⟨q, hq, hql⟩ := mem_writes_lt hM x hmem
     obtain ⟨av, cv, mx, rx, cv0, cv1⟩ := HC1.out j x hdj
     obtain ⟨x0, x1⟩ := x
     simp only at hq mx rx cv0 cv1
     subst hq
     have ncs : gC ≠ gS := by omega
     have d0 := (cell_kept (tn.block gC (by omega) (by simp; omega)) (j * 2)).trans cv0
     have d1 := (cell_kept (tn.block gC (by omega) (by simp; omega)) (j * 2 + 1)).trans cv1
     have mr := mx.kept tn (fun b hb hb' => by have := rx b hb; simp at hb'; omega)
     obtain ⟨⟨old, cOld⟩, fz, hgm, fpA, mA, rA⟩ := row_set1 (j := q) rfl hS (by omega) mr (fun b hb hb' => by
      have h1 := rx b hb
      rcases hfp b hb' with h2 | ⟨i, h2, h3⟩
      . omega
      exact HC2.out i j h2 (by omega) b h3 hb)
     have hfA : ∀ b ∈ fpA, (m1 <= b /\ b < m2) ∨ ∃ i, i < j + 1 /\ b ∈ FC i := fun b hb => by
      rcases rA b hb with h | h
      . rcases hfp b h with h2 | ⟨i, h2, h3⟩
        . exact .inl h2
        exact .inr ⟨i, by omega, h3⟩
      exact .inr ⟨j, by omega, h⟩
     have k3 : (0 : Int) <= (q : Int) := by omega
     have k4 : (q : Int) < (n0 : Int) := by omega
     have HTK := hidden htk
     have HFA := hidden hfA
     have MA := hidden mA
     have TA := hidden (tn.trans (Turned.setCell (w := wr) (g := gS) (j := q) (.slice av x1.length cv) (List.mem_cons_self : gS ∈ [gS])))
     have XOR := hidden xo
     have nO : Hid (w1.heap.size ≠ gS) := by unfold Hid; omega
     have nC : Hid (gC ≠ gS) := ncs
     have hT : Hid (wr.cell? ⟨gC, j * 2, none⟩ = some (.int .i64 (q : Int)) /\ wr.cell? ⟨gC, j * 2 + 1, none⟩ = some (.slice av x1.length cv)) := ⟨d0, d1⟩
     clear hdj htk hmem mx rx cv0 cv1 mr hfA mA rA tn hS hfp xo hgm ncs
     go_wp2_with fail
     go_region_held3 (fun w' => w'.cell? ⟨w1.heap.size, 0, none⟩ = some (.slice (some ⟨gS, 0, none⟩) n0 e0) /\ w'.cell? ⟨w1.heap.size, 1, none⟩ = some (.slice (some ⟨gC, 0, none⟩) n1 e1) /\ w'.cell? ⟨gC, j * 2, none⟩ = some (.int .i64 (q : Int)) /\ w'.cell? ⟨gC, j * 2 + 1, none⟩ = some (.slice av x1.length cv))
      (first | (exact ⟨y0, y1, d0, d1⟩) | (exact ⟨(XOR.out.other nO.out q (.slice av x1.length cv)).cell 0, (XOR.out.other nO.out q (.slice av x1.length cv)).cell 1, (cell_kept (Below.heap_setCell _ _ _ _ nC.out) _).trans d0, (cell_kept (Below.heap_setCell _ _ _ _ nC.out) _).trans d1⟩) | go_keep)
      (fail)
     clear d0 d1 y0 y1 y2 y3 cOld fz XOR nO nC hT
     go_wp2
     go_roundw
     case rel => exact ⟨j + 1, fpA, by omega, by go_num, Turned.adrew TA.out, by rw [HTK.out, flushD_snoc (by omega)]; exact Ty.Mine.adrew MA.out, HFA.out⟩
     case measure => simp [intOf]; omega
   have e : n1 = j := by omega
   subst e
   rw [List.take_of_length_le (by omega)] at hS
   have yo := xo.alloc (.cells #[] 109)
   have ys := yo.set 1 (.slice (some ⟨wr.heap.size, 0, none⟩) 0 0)
   have yt := ((XR.out.turned tn (by simp; omega)).alloc (.cells #[] 109)).other (g := w1.heap.size) (by omega) 1 (.slice (some ⟨wr.heap.size, 0, none⟩) 0 0)
   obtain ⟨s0, s1, s2, s3⟩ := yo.cells4
   have fo := yo.frozen 1
   obtain ⟨t0, t1, t2, t3⟩ := Box.cells4 (v0 := .slice (some ⟨gS, 0, none⟩) n0 e0) (v1 := (.slice (some ⟨wr.heap.size, 0, none⟩) 0 0)) (v2 := .bool false) (v3 := .slice b3 n3 e3) ys
   obtain ⟨p0, p1, p2, p3⟩ := yt.cells4
   have fz := yt.frozen
   have zl : (wr.alloc (.cells #[] 109)).heap.size = wr.heap.size + 1 := by simp
   have ZL := hidden zl
   have bo := But.setCell (lo := w1.heap.size) (hi := w1.heap.size + 1) (g := w1.heap.size) (j := 1) (w := (wr.alloc (.cells #[] 109))) (Nat.le_refl _) (Nat.lt_succ_self _) (.slice (some ⟨wr.heap.size, 0, none⟩) 0 0)
   have bl : Below wr.heap.size wr (wr.alloc (.cells #[] 109)) := (Below.refl _ _).alloc (Nat.le_refl _) _
   have kl := ((lit0_mine (t := tWr) (E := 109) wr).own (lo := wr.heap.size) (hi := wr.heap.size + 1) (fun b hb => by simp at hb; omega)).but bo (.inr (by omega))
   have k0 := ((hS.own (lo := m1) (hi := w1.heap.size) (fun b hb => by
    rcases hfp b hb with h | ⟨i, h2, h3⟩
    . omega
    by_cases hin : i < n1
    . obtain ⟨_, _, _, r, _⟩ := HC1.out i _ (List.getElem?_eq_getElem (by omega))
      have := r b h3
      omega
    omega)).below bl).but bo (.inl (Nat.le_refl _))
   have k3 := ((L3.out.but (tn.but (lo := m1) (hi := m2) (by simp; omega)) (.inl (Nat.le_refl _))).below bl).but bo (.inl (by omega))
   have kb : Below w.heap.size w ((wr.alloc (.cells #[] 109)).setCell ⟨w1.heap.size, 1, none⟩ (.slice (some ⟨wr.heap.size, 0, none⟩) 0 0)) := LB.out.trans ((tn.below (N := w.heap.size) (by omega) (by simp; omega)).trans ((bl.mono (by omega)).trans (bo.below (by omega) (by omega))))
   have zs := bo.size
   clear zl bo bl hS tn hfp xo yo ys yt q0 q1 q2 q3 XM hC0 HC1 HC2 MS0 RS0
   go_wp2
   generalize ((wr.alloc (.cells #[] 109)).setCell ⟨w1.heap.size, 1, none⟩ (.slice (some ⟨wr.heap.size, 0, none⟩) 0 0)) = wz at t0 t1 t2 t3 p0 p1 p2 p3 fz kl k0 k3 kb zs ⊢
   have zL := ZL.out
   have hbt : But (w.heap.size + 1) (w.heap.size + 2) wz ((((wz.setCell ⟨w.heap.size + 1, 0, none⟩ (.slice (some ⟨gS, 0, none⟩) n0 e0)).setCell ⟨w.heap.size + 1, 1, none⟩ (.slice (some ⟨wr.heap.size, 0, none⟩) 0 0)).setCell ⟨w.heap.size + 1, 2, none⟩ (.bool false)).setCell ⟨w.heap.size + 1, 3, none⟩ (.slice b3 n3 e3)) :=
    (((But.setCell (by omega) (by omega) _).trans (But.setCell (by omega) (by omega) _)).trans (But.setCell (by omega) (by omega) _)).trans (But.setCell (by omega) (by omega) _)
   have z9 := hbt.size
   refine bodyPost_ret (v := .agg #[.slice (some ⟨gS, 0, none⟩) n0 e0, (.slice (some ⟨wr.heap.size, 0, none⟩) 0 0), .bool false, .slice b3 n3 e3]) (by simp [results, Tryz.results141, go_sem, p0, p1, p2, p3]) rfl ?_
   exact ⟨_, _, _, rfl, mem_own3 (k0.but hbt (by omega)) (kl.but hbt (by omega)) (k3.but hbt (by omega)) (by omega) (by omega) (by omega) (by omega) (by omega) (by omega), Below.andBut kb hbt (by omega)⟩
 have hM : memB ss cs bs = false := by simpa using hM
 have e1 : flSS ss cs f bs = ss := by unfold flSS; simp [hM]
 have e2 : flCS ss cs f bs = cs := by unfold flCS; simp [hM]
 rw [e1, e2]
 clear e1 e2
 have hA : Below w.heap.size w ((w.alloc (.cells #[.slice a0 n0 c0, .slice a1 n1 c1, .bool f, .slice a3 n3 c3] 51)).alloc (.cells #[.slice none 0 0, .slice none 0 0, .bool false, .slice none 0 0] 51)) := ((Below.refl _ _).alloc (Nat.le_refl _) _).alloc (by simp) _
 have xm : Box ((w.alloc (.cells #[.slice a0 n0 c0, .slice a1 n1 c1, .bool f, .slice a3 n3 c3] 51)).alloc (.cells #[.slice none 0 0, .slice none 0 0, .bool false, .slice none 0 0] 51)) w.heap.size 51 #[.slice a0 n0 c0, .slice a1 n1 c1, .bool f, .slice a3 n3 c3] := (Box.new w _ _).alloc _
 have xr : Box ((w.alloc (.cells #[.slice a0 n0 c0, .slice a1 n1 c1, .bool f, .slice a3 n3 c3] 51)).alloc (.cells #[.slice none 0 0, .slice none 0 0, .bool false, .slice none 0 0] 51)) (w.heap.size + 1) 51 #[.slice none 0 0, .slice none 0 0, .bool false, .slice none 0 0] := by
  have := Box.new (w.alloc (.cells #[.slice a0 n0 c0, .slice a1 n1 c1, .bool f, .slice a3 n3 c3] 51)) 51 #[.slice none 0 0, .slice none 0 0, .bool false, .slice none 0 0]
  rw [show (w.alloc (.cells #[.slice a0 n0 c0, .slice a1 n1 c1, .bool f, .slice a3 n3 c3] 51)).heap.size = w.heap.size + 1 by simp] at this
  exact this
 go_enter Tryz.func141, Tryz.ntmps141
 go_wp2_with fail
 generalize hW : (w.alloc (.cells #[.slice a0 n0 c0, .slice a1 n1 c1, .bool f, .slice a3 n3 c3] 51)).alloc (.cells #[.slice none 0 0, .slice none 0 0, .bool false, .slice none 0 0] 51) = W at hA xm xr ⊢
 clear hW
 have zr := xr.lt
 obtain ⟨q0, q1, q2, q3⟩ := xm.cells4
 have XM := hidden xm
 have XR := hidden xr
 clear xm xr
 refine (l2Copy_any _ E _ _ _ _ _ _ _ _ _ ss cs f bs (h0.below hA) (h1.below hA) (h3.below hA) hw).mono ?_
 intro e w1 hc
 obtain ⟨b0, b1, b3, e0, e1, e3, m1, m2, rfl, o3, o0, o1, r1, r2, r3, bb⟩ := copy_shapes hl0 hl1 hl3 hc
 clear hc
 have z1 := bb.size
 have sW : w.heap.size + 2 <= W.heap.size := by omega
 have ba : Below w1.heap.size w1 (w1.alloc (.cells #[.slice b0 n0 e0, .slice b1 n1 e1, .bool f, .slice b3 n3 e3] 51)) := (Below.refl _ _).alloc (Nat.le_refl _) _
 have yo := Box.new w1 51 #[.slice b0 n0 e0, .slice b1 n1 e1, .bool f, .slice b3 n3 e3]
 have zo := yo.lt
 have YO := hidden yo
 have YR := hidden ((XR.out.below bb zr).below ba (by omega))
 have YM := hidden ((XM.out.below bb (by omega)).below ba (by omega))
 have K0 := hidden (o0.below ba)
 have K1 := hidden (o1.below ba)
 have K3 := hidden (o3.below ba)
 have KB := hidden (hA.trans ((bb.mono (by omega : w.heap.size <= W.heap.size)).trans (ba.mono (by omega))))
 clear yo o0 o1 o3 XM XR bb ba hA q0 q1 q2 q3
 obtain ⟨q0, q1, q2, q3⟩ := YM.out.cells4
 go_wp2_with fail
 generalize w1.alloc (.cells #[.slice b0 n0 e0, .slice b1 n1 e1, .bool f, .slice b3 n3 e3] 51) = w2 at YO YR YM K0 K1 K3 KB zo q0 q1 q2 q3 ⊢
 refine (specMemOk_any _ E _ _ _ _ _ _ _ _ _ ss cs f bs (h0.below KB.out) (h1.below KB.out) (h3.below KB.out) hw).mono ?_
 rintro e w3 ⟨rfl, b4⟩
 have z3 := b4.size
 have XO := hidden (YO.out.below b4 (by omega))
 have XR := hidden (YR.out.below b4 (by omega))
 have XM := hidden (YM.out.below b4 (by omega))
 have L0 := hidden (K0.out.below b4)
 have L1 := hidden (K1.out.below b4)
 have L3 := hidden (K3.out.below b4)
 have LB := hidden (KB.out.trans (b4.mono (by have := KB.out.size; omega)))
 clear YO YR YM K0 K1 K3 KB b4 q0 q1 q2 q3
 obtain ⟨q0, q1, q2, q3⟩ := XM.out.cells4
 obtain ⟨x0, x1, x2, x3⟩ := XO.out.cells4
 obtain ⟨p0, p1, p2, p3⟩ := XR.out.cells4
 have fz := XR.out.frozen
 have hbt : But (w.heap.size + 1) (w.heap.size + 2) w3 ((((w3.setCell ⟨w.heap.size + 1, 0, none⟩ (.slice b0 n0 e0)).setCell ⟨w.heap.size + 1, 1, none⟩ (.slice b1 n1 e1)).setCell ⟨w.heap.size + 1, 2, none⟩ (.bool f)).setCell ⟨w.heap.size + 1, 3, none⟩ (.slice b3 n3 e3)) :=
  (((But.setCell (by omega) (by omega) _).trans (But.setCell (by omega) (by omega) _)).trans (But.setCell (by omega) (by omega) _)).trans (But.setCell (by omega) (by omega) _)
 have z9 := hbt.size
 have FIN : Hid ((tMem 109).Own ((((w3.setCell ⟨w.heap.size + 1, 0, none⟩ (.slice b0 n0 e0)).setCell ⟨w.heap.size + 1, 1, none⟩ (.slice b1 n1 e1)).setCell ⟨w.heap.size + 1, 2, none⟩ (.bool f)).setCell ⟨w.heap.size + 1, 3, none⟩ (.slice b3 n3 e3)) w.heap.size ((((w3.setCell ⟨w.heap.size + 1, 0, none⟩ (.slice b0 n0 e0)).setCell ⟨w.heap.size + 1, 1, none⟩ (.slice b1 n1 e1)).setCell ⟨w.heap.size + 1, 2, none⟩ (.bool f)).setCell ⟨w.heap.size + 1, 3, none⟩ (.slice b3 n3 e3)).heap.size [.slice b0 n0 e0, .slice b1 n1 e1, .bool f, .slice b3 n3 e3] (ss, cs, f, bs)) := mem_own3 (L0.out.but hbt (by omega)) (L1.out.but hbt (by omega)) (L3.out.but hbt (by omega)) (by omega) (by omega) (by omega) (by omega) (by omega) (by omega)
 have FB := hidden (Below.andBut LB.out hbt (by omega))
 clear hbt
 go_wp2
 refine bodyPost_ret (v := .agg #[.slice b0 n0 e0, .slice b1 n1 e1, .bool f, .slice b3 n3 e3]) (by simp [results, Tryz.results141, go_sem, p0, p1, p2, p3]) rfl ?_
 exact ⟨_, _, _, rfl, FIN.out, FB.out⟩

theorem l7Sync_any (w : World) (B : Nat) (x : ArrN) (ms : List MemD) (ds : List (Int × List Int)) (fm fd : List Nat) (h : ArrAt w B x ms ds fm fd) (hf : x.fuse <= 1000) (hM : MsOk ms) :
 Calls Tryz.prog 106 #[.pointer (some ⟨B, 0, none⟩)] w fun e w' => e = .returned (.tuple #[]) /\ ∃ fm', ArrAt w' B (syncS (x, ms) ms.length).1 (syncS (x, ms) ms.length).2 ds fm' fd /\ Moved B fm w fm' w' := by
 have hkp := fun j => syncS_keeps (q := (x, ms)) hM hf j
 have HK := hidden hkp
 clear hkp
 have H0 := hidden h
 obtain ⟨bm0, bd0, cm0, cd0, X0, hm0, _⟩ := h
 have hmx := (row_length hm0.rd).2
 clear X0 hm0
 go_enter Tryz.func106, Tryz.ntmps106
 go_wp2
 go_loopw [2] (fun i wr => ∃ (j : Nat) (fm1 : List Nat), j <= ms.length /\ i = .int .i64 j /\ ArrAt wr B (syncS (x, ms) j).1 (syncS (x, ms) j).2 ds fm1 fd /\ Moved B fm w fm1 wr) (fun i _ => ms.length - (intOf i).toNat)
 case atStart => exact ⟨0, fm, Nat.zero_le _, rfl, H0.out, Moved.refl _ _ _⟩
 obtain ⟨j, fm1, hj, rfl, hA, hMv⟩ := hrel
 obtain ⟨hMj, hsj, hlj⟩ := HK.out j
 have hfj := hsj.2.2.2.2.2.2.2.2.2.1
 have HS := hidden (syncS_succ (x, ms) j)
 generalize hst : syncS (x, ms) j = st at hA hMj hsj hlj hfj HS
 have HST := hidden hst
 clear hst
 obtain ⟨y, ns⟩ := st
 dsimp only at hA hMj hsj hlj hfj
 have HA := hidden hA
 obtain ⟨bm, bd, cm, cd, X, hmm, hdd, hr, r1, r2⟩ := hA
 rw [hlj] at X hmm
 have X0 := X
 unfold arrC at X0
 obtain ⟨k0, k1, k2, k3, k4, k5, k6, k7, k8, k9, k10, k11, k12⟩ := X0.cells13
 by_cases hjn : j < ms.length
 . have i2 : (j : Int) < (ms.length : Int) := by omega
   have i1 : (0 : Int) <= (j : Int) := by omega
   obtain ⟨g, rfl⟩ := row_head hmm (by omega)
   have hdj : ns[j]? = some (ns[j]'(by omega)) := List.getElem?_eq_getElem (by omega)
   generalize ns[j]'(by omega) = d at hdj
   obtain ⟨hgl, a0, a1, a3, c0, c1, c3, ss, cs, f, bs, rfl, q0, q1, q2, q3, _, _, _⟩ := disk_at hmm hdj
   have MV := hidden hMv
   clear X X0 hmm hdd hMv
   cases f
   . go_wp2_with fail
     refine (l7Op_any _ B y ns ds fm1 fd HA.out hfj).mono ?_
     rintro e w1 ⟨rfl, hA1, hMv1⟩
     clear k0 k1 k2 k3 k4 k5 k6 k7 k8 k9 k10 k11 k12 q0 q1 q2 q3 HA
     cases ho : opB y
     . have HP : Hid (syncS (x, ms) (j + 1) = (opX y, ns)) := HS.out.trans (doS_no hdj rfl ho)
       have HB := hidden (MV.out.trans hMv1)
       have HA1 := hidden hA1
       clear hA1 hMv1
       go_wp2
       go_roundw
       case rel => exact ⟨j + 1, fm1, by omega, by go_num, by rw [HP.out]; exact HA1.out, HB.out⟩
       case measure => simp [intOf]; omega
     have HP : Hid (syncS (x, ms) (j + 1) = (opX y, ns.set j (flM (ss, cs, false, bs)))) := HS.out.trans (doS_yes hdj rfl ho)
     obtain ⟨bm, bd, cm, cd, X, hmm, hdd, hr, r1, r2⟩ := hA1
     obtain ⟨g, rfl⟩ := row_head hmm (by omega)
     obtain ⟨hgl, a0, a1, a3, c0, c1, c3, ss, cs, f, bs, hde, q0, q1, q2, q3, p0, p1, p3⟩ := disk_at hmm hdj
     simp only [Prod.mk.injEq] at hde
     obtain ⟨rfl, rfl, rfl, rfl⟩ := hde
     have X0 := X
     unfold arrC at X0
     have x3 := X0.cells13.2.2.2.1
     have hwt := memB_light (hMj j _ hdj) false
     dsimp only at hwt
     have zB := X.lt
     have XH := hidden X
     have MH := hidden hmm
     have DH := hidden hdd
     have MV1 := hidden hMv1
     have R0 := hidden p0
     have R1 := hidden p1
     have R3 := hidden p3
     have hS : w1.drew.cell? ⟨B, 3, none⟩ = some (.slice (some ⟨g, 0, none⟩) ns.length cm) /\ w1.drew.cell? ⟨g, j * 4, none⟩ = some (.slice a0 ss.length c0) /\ w1.drew.cell? ⟨g, j * 4 + 1, none⟩ = some (.slice a1 cs.length c1) /\ w1.drew.cell? ⟨g, j * 4 + 2, none⟩ = some (.bool false) /\ w1.drew.cell? ⟨g, j * 4 + 3, none⟩ = some (.slice a3 bs.length c3) := ⟨x3, q0, q1, q2, q3⟩
     have i3 : (j : Int) < (ns.length : Int) := by omega
     clear X X0 hmm hdd hMv1 p0 p1 p3
     go_wp2_with fail
     refine Upto.start (S := fun w' => w'.cell? ⟨B, 3, none⟩ = some (.slice (some ⟨g, 0, none⟩) ns.length cm) /\ w'.cell? ⟨g, j * 4, none⟩ = some (.slice a0 ss.length c0) /\ w'.cell? ⟨g, j * 4 + 1, none⟩ = some (.slice a1 cs.length c1) /\ w'.cell? ⟨g, j * 4 + 2, none⟩ = some (.bool false) /\ w'.cell? ⟨g, j * 4 + 3, none⟩ = some (.slice a3 bs.length c3)) (k := 14) (by kernel_rfl) ?_
     refine Upto.t 0 hS ?_
     refine Upto.t 1 hS ?_
     refine Upto.t 2 hS ?_
     refine Upto.t 3 hS ?_
     refine Upto.t 4 hS ?_
     refine Upto.t 5 hS ?_
     refine Upto.t 6 hS ?_
     refine Upto.t 7 hS ?_
     refine Upto.t 8 hS ?_
     refine Upto.t 9 hS ?_
     refine Upto.t 10 hS ?_
     refine Upto.t 11 hS ?_
     refine Upto.one (i := 12) (by kernel_rfl) rfl (fun K hK => ?_)
     go_simp
     refine (specFlushMem_any _ 109 _ _ _ _ _ _ _ _ _ ss cs false bs R0.out.drew R1.out.drew R3.out.drew (by omega)).mono ?_
     rintro e w2 ⟨u0, u1, u3, rfl, o2, b2'⟩
     have b2 : Below w1.heap.size w1 w2 := (Below.refl w1.heap.size w1).drew.trans b2'
     have o2b : (tMem 109).Own w2 w1.heap.size w2.heap.size [u0, u1, .bool false, u3] _ := o2
     obtain ⟨d0, l0, f0, d1, l1, f1, d3, l3, f3, hv0, hv1, hv3⟩ := mem_slices o2b
     subst hv0 hv1 hv3
     obtain ⟨fpx, mx, rx⟩ := o2b.mine
     obtain ⟨cOld, fz, hgm, fm9, hA9, hMv9⟩ := arr_store (m := j) XH.out MH.out DH.out hr r1 r2 b2 (by omega) mx (fun b hb => (rx b hb).1)
     obtain ⟨o0, t0⟩ := cOld 0 (by omega)
     obtain ⟨o1, t1⟩ := cOld 1 (by omega)
     obtain ⟨o2', t2⟩ := cOld 2 (by omega)
     obtain ⟨o3, t3⟩ := cOld 3 (by omega)
     rw [Nat.add_zero] at t0
     have HA := hidden hA9
     have HMV := hidden ((MV.out.trans MV1.out).trans hMv9)
     have hS2 : w2.cell? ⟨B, 3, none⟩ = some (.slice (some ⟨g, 0, none⟩) ns.length cm) /\ w2.cell? ⟨g, j * 4, none⟩ = some (.slice a0 ss.length c0) /\ w2.cell? ⟨g, j * 4 + 1, none⟩ = some (.slice a1 cs.length c1) /\ w2.cell? ⟨g, j * 4 + 2, none⟩ = some (.bool false) /\ w2.cell? ⟨g, j * 4 + 3, none⟩ = some (.slice a3 bs.length c3) := ⟨(b2.cell (p := ⟨B, 3, none⟩) zB).trans x3, (b2.cell (p := ⟨g, j * 4, none⟩) hgl).trans q0, (b2.cell (p := ⟨g, j * 4 + 1, none⟩) hgl).trans q1, (b2.cell (p := ⟨g, j * 4 + 2, none⟩) hgl).trans q2, (b2.cell (p := ⟨g, j * 4 + 3, none⟩) hgl).trans q3⟩
     have gB : ¬ g = B := fun e => r1 (e ▸ hgm)
     unfold put4 at HA HMV
     clear x3 q0 q1 q2 q3 o2 o2b b2 b2' mx rx cOld hA9 hMv9 XH MH DH MV MV1 R0 R1 R3 hwt
     go_wp2_with fail
     refine hK.out _ _ (fun _ => hS2) ?_
     clear hK K
     refine Upto.t 13 hS2 ?_
     refine Upto.one (i := 14) (by kernel_rfl) rfl (fun K hK => ?_)
     go_simp
     refine hK.out _ _ (fun h => absurd rfl h) ?_
     clear hK K
     refine Upto.done (by kernel_rfl) ?_ _
     clear hS hS2 t0 t1 t2 t3 fz
     go_wp2
     go_roundw
     case rel => exact ⟨j + 1, fm9, by omega, by go_num, by rw [HP.out]; exact HA.out, HMV.out⟩
     case measure => simp [intOf]; omega
   have HP : Hid (syncS (x, ms) (j + 1) = (y, ns)) := HS.out.trans (doS_failed hdj rfl)
   go_wp2
   go_roundw
   case rel => exact ⟨j + 1, fm1, by omega, by go_num, by rw [HP.out]; exact HA.out, MV.out⟩
   case measure => simp [intOf]; omega
 have ej : j = ms.length := by omega
 subst ej
 have HMV := hidden hMv
 clear X X0 hmm hdd hMv
 go_wp2
 refine bodyPost_end (v := .tuple #[]) (results_none rfl _ _ _) rfl ?_
 exact ⟨rfl, fm1, by rw [HST.out]; exact HA.out, HMV.out⟩

theorem putD_len9 (x : Sup) : (putD x).length <= 9 := by unfold putD; split <;> simp

theorem l7Mark_any (w : World) (B : Nat) (x : ArrN) (ms : List MemD) (ds : List (Int × List Int)) (fm fd : List Nat) (h : ArrAt w B x ms ds fm fd) (hf : x.fuse <= 1000) (hM : MsOk ms) (hg0 : 0 <= x.gen) (hg1 : x.gen <= 60000) :
 Calls Tryz.prog 64 #[.pointer (some ⟨B, 0, none⟩)] w fun e w' => e = .returned (.tuple #[]) /\ ∃ fm', ArrAt w' B (markS (x, ms)).1 (markS (x, ms)).2 ds fm' fd /\ Moved B fm w fm' w' := by
 obtain ⟨x1, hx1⟩ : ∃ x1 : ArrN, x1 = {x with gen := x.gen + 1} := ⟨_, rfl⟩
 have hf1 : x1.fuse <= 1000 := by rw [hx1]; exact hf
 have hgen : x1.gen = x.gen + 1 := by rw [hx1]
 have hgw : IntKind.i64.wrap (x.gen + 1) = x.gen + 1 := IntWalk.i64_in _ (by omega)
 have HK : Hid (∀ j, _) := fun j => supsS_keeps (q := (x1, ms)) hM hf1 j
 have HMK : Hid (markS (x, ms) = syncS (supsS (x1, ms) ms.length) ms.length) := by rw [hx1]; rfl
 obtain ⟨bm0, bd0, cm0, cd0, X0, hm0, hd0, hr0, r10, r20⟩ := h
 have hmx := (row_length hm0.rd).2
 have A1 : Hid (ArrAt (w.setCell ⟨B, 8, none⟩ (.int .i64 (x.gen + 1))) B x1 ms ds fm fd) := by
  unfold Hid
  rw [hx1]
  exact ⟨bm0, bd0, cm0, cd0, X0.set 8 (.int .i64 (x.gen + 1)), hm0.setCell (g := B) (j := 8) r10 _, hd0.setCell (g := B) (j := 8) r20 _, hr0, r10, r20⟩
 have M1 := hidden (Moved.set (B := B) (j := 8) (fm := fm) (w := w) (.int .i64 (x.gen + 1)))
 unfold arrC at X0
 obtain ⟨k0, k1, k2, k3, k4, k5, k6, k7, k8, k9, k10, k11, k12⟩ := X0.cells13
 have fz := X0.frozen
 have hgn : 0 <= x1.gen /\ x1.gen <= 60001 := by omega
 clear X0 hm0 hd0 hr0 r10 r20 hx1 hgen
 go_enter Tryz.func64, Tryz.ntmps64
 go_wp2
 generalize w.setCell ⟨B, 8, none⟩ (.int .i64 (x.gen + 1)) = W at A1 M1 ⊢
 clear k0 k1 k2 k3 k4 k5 k6 k7 k8 k9 k10 k11 k12 fz
 go_loopw [2] (fun i wr => ∃ (j : Nat) (fm1 : List Nat), j <= ms.length /\ i = .int .i64 j /\ ArrAt wr B (supsS (x1, ms) j).1 (supsS (x1, ms) j).2 ds fm1 fd /\ Moved B fm w fm1 wr) (fun i _ => ms.length - (intOf i).toNat)
 case atStart => exact ⟨0, fm, Nat.zero_le _, rfl, A1.out, M1.out⟩
 clear A1 M1
 obtain ⟨j, fm1, hj, rfl, hA, hMv⟩ := hrel
 obtain ⟨hMj, hsj, hlj⟩ := HK.out j
 have hfj := hsj.2.2.2.2.2.2.2.2.2.1
 have hgj := hsj.2.2.2.2.2.2.2.1
 have HS := hidden (supsS_succ (x1, ms) j)
 generalize hst : supsS (x1, ms) j = st at hA hMj hsj hlj hfj hgj HS
 have HST := hidden hst
 clear hst
 obtain ⟨y, ns⟩ := st
 dsimp only at hA hMj hsj hlj hfj hgj HS
 have hgy : 0 <= y.gen /\ y.gen <= 60001 := by omega
 clear hgj hsj
 have HA := hidden hA
 obtain ⟨bm, bd, cm, cd, X, hmm, hdd, hr, r1, r2⟩ := hA
 rw [hlj] at X
 unfold arrC at X
 have zB := X.lt
 have XH := hidden X
 obtain ⟨k0, k1, k2, k3, k4, k5, k6, k7, k8, k9, k10, k11, k12⟩ := X.cells13
 clear hmm hdd hr r1 r2 X
 by_cases hjn : j < ms.length
 . have i2 : (j : Int) < (ms.length : Int) := by omega
   have t2 : y.gen.tmod 2 = y.gen % 2 := Int.tmod_eq_emod_of_nonneg hgy.1
   have t3 : IntKind.i64.wrap (y.gen % 2) = y.gen % 2 := IntWalk.i64_in _ (by omega)
   have t4 : ¬ (2 : Int) = 0 := by omega
   have MV := hidden hMv
   clear hMv
   have hS : wr.drew.cell? ⟨B, 0, none⟩ = some (.int .i64 y.id) /\ wr.drew.cell? ⟨B, 1, none⟩ = some (.int .i64 y.n) /\ wr.drew.cell? ⟨B, 2, none⟩ = some (.int .i64 y.s) /\ wr.drew.cell? ⟨B, 4, none⟩ = some (.int .i64 y.lost) /\ wr.drew.cell? ⟨B, 5, none⟩ = some (.int .i64 y.built) /\ wr.drew.cell? ⟨B, 7, none⟩ = some (.int .i64 y.tail) /\ wr.drew.cell? ⟨B, 8, none⟩ = some (.int .i64 y.gen) := ⟨k0, k1, k2, k4, k5, k7, k8⟩
   go_wp2_with fail
   refine wp_region_held_drew (S := fun w' => w'.cell? ⟨B, 0, none⟩ = some (.int .i64 y.id) /\ w'.cell? ⟨B, 1, none⟩ = some (.int .i64 y.n) /\ w'.cell? ⟨B, 2, none⟩ = some (.int .i64 y.s) /\ w'.cell? ⟨B, 4, none⟩ = some (.int .i64 y.lost) /\ w'.cell? ⟨B, 5, none⟩ = some (.int .i64 y.built) /\ w'.cell? ⟨B, 7, none⟩ = some (.int .i64 y.tail) /\ w'.cell? ⟨B, 8, none⟩ = some (.int .i64 y.gen)) (by kernel_rfl) ?_ (fun hHeld => ?_)
   . exact hS
   refine held_t 0 hHeld ?_
   refine held_t 1 hHeld ?_
   refine held_t 2 hHeld ?_
   refine held_t 3 hHeld ?_
   refine held_t 4 hHeld ?_
   refine held_t 5 hHeld ?_
   refine held_t 6 hHeld ?_
   refine held_t 7 hHeld ?_
   refine held_t 8 hHeld ?_
   refine held_t 9 hHeld ?_
   refine held_t 10 hHeld ?_
   refine held_t 11 hHeld ?_
   refine held_t 12 hHeld ?_
   refine held_t 13 hHeld ?_
   refine held_t 14 hHeld ?_
   refine held_t 15 hHeld ?_
   refine held_t 16 hHeld ?_
   refine held_t 17 hHeld ?_
   refine held_t 18 hHeld ?_
   refine held_t 19 hHeld ?_
   refine held_t 20 hHeld ?_
   refine held_t 21 hHeld ?_
   refine held_t 22 hHeld ?_
   refine held_t 23 hHeld ?_
   refine held_t 24 hHeld ?_
   refine held_t 25 hHeld ?_
   refine held_t 26 hHeld ?_
   refine held_t 27 hHeld ?_
   refine held_t 28 hHeld ?_
   refine held_t 29 hHeld ?_
   refine held_t 30 hHeld ?_
   refine held_t 31 hHeld ?_
   refine held_t 32 hHeld ?_
   refine held_t 33 hHeld ?_
   refine held_t 34 hHeld ?_
   refine held_t 35 hHeld ?_
   refine held_t 36 hHeld ?_
   refine held_t 37 hHeld ?_
   refine held_t 38 hHeld ?_
   refine held_one (i := 39) (by kernel_rfl) rfl (by kernel_rfl) (fun K hK => ?_)
   go_simp
   refine (specPutSuper_any _ (supA y j)).mono ?_
   rintro e w2 ⟨ap, lp, cp, rfl, o2, b2'⟩
   have b2 : Below wr.heap.size wr w2 := (Below.refl wr.heap.size wr).drew.trans b2'
   have o2b : tIntS.Own w2 wr.heap.size w2.heap.size [.slice ap lp cp] (putD (supA y j)) := o2
   obtain ⟨fpp, mp, rp⟩ := o2b.mine
   have hlp : lp <= 9 := by have h1 := (row_length o2b.rd).1; have h2 := putD_len9 (supA y j); omega
   have hS2 : w2.cell? ⟨B, 0, none⟩ = some (.int .i64 y.id) /\ w2.cell? ⟨B, 1, none⟩ = some (.int .i64 y.n) /\ w2.cell? ⟨B, 2, none⟩ = some (.int .i64 y.s) /\ w2.cell? ⟨B, 4, none⟩ = some (.int .i64 y.lost) /\ w2.cell? ⟨B, 5, none⟩ = some (.int .i64 y.built) /\ w2.cell? ⟨B, 7, none⟩ = some (.int .i64 y.tail) /\ w2.cell? ⟨B, 8, none⟩ = some (.int .i64 y.gen) := ⟨(b2.cell (p := ⟨B, 0, none⟩) zB).trans k0, (b2.cell (p := ⟨B, 1, none⟩) zB).trans k1, (b2.cell (p := ⟨B, 2, none⟩) zB).trans k2, (b2.cell (p := ⟨B, 4, none⟩) zB).trans k4, (b2.cell (p := ⟨B, 5, none⟩) zB).trans k5, (b2.cell (p := ⟨B, 7, none⟩) zB).trans k7, (b2.cell (p := ⟨B, 8, none⟩) zB).trans k8⟩
   have A2 := hidden (HA.out.below b2)
   have LT := hidden HA.out.ltm
   have MV2 := hidden (MV.out.below b2)
   have MP := hidden mp
   have RP := hidden rp
   clear k0 k1 k2 k3 k4 k5 k6 k7 k8 k9 k10 k11 k12 o2 o2b b2 b2' mp rp MV HA
   go_wp2_with fail
   clear hHeld
   refine hK.out _ _ ?_ (fun hHeld => ?_)
   . exact hS2
   clear hK K
   refine held_one (i := 40) (by kernel_rfl) rfl (by kernel_rfl) (fun K hK => ?_)
   go_simp
   refine (l7Put_any _ B y ns ds fm1 fd A2.out hfj hMj j (by omega) _ _ _ _ (putD (supA y j)) fpp MP.out (fun hm => by have := RP.out _ hm; omega) (fun b hb hm => by have h1 := RP.out b hb; have h2 := LT.out.1 b hm; omega) (by omega)).mono ?_
   rintro e w3 ⟨rfl, fm3, hA3, hMv3⟩
   have hsm : SameN y (putS (y, ns) j (y.gen % 2) (putD (supA y j))).1 := doS_same _ _ hfj
   have hS3 : w3.cell? ⟨B, 0, none⟩ = some (.int .i64 y.id) /\ w3.cell? ⟨B, 1, none⟩ = some (.int .i64 y.n) /\ w3.cell? ⟨B, 2, none⟩ = some (.int .i64 y.s) /\ w3.cell? ⟨B, 4, none⟩ = some (.int .i64 y.lost) /\ w3.cell? ⟨B, 5, none⟩ = some (.int .i64 y.built) /\ w3.cell? ⟨B, 7, none⟩ = some (.int .i64 y.tail) /\ w3.cell? ⟨B, 8, none⟩ = some (.int .i64 y.gen) := by
    obtain ⟨_, _, _, _, X3, _⟩ := hA3
    unfold arrC at X3
    obtain ⟨k0, k1, k2, k3, k4, k5, k6, k7, k8, k9, k10, k11, k12⟩ := X3.cells13
    obtain ⟨e1, e2, e3, e4, e5, e6, e7, e8, _⟩ := hsm
    rw [e1] at k0
    rw [e2] at k1
    rw [e3] at k2
    rw [e4] at k4
    rw [e5] at k5
    rw [e7] at k7
    rw [e8] at k8
    exact ⟨k0, k1, k2, k4, k5, k7, k8⟩
   have HA3 : Hid (ArrAt w3 B (supsS (x1, ms) (j + 1)).1 (supsS (x1, ms) (j + 1)).2 ds fm3 fd) := by unfold Hid; rw [HS.out]; exact hA3
   have HM3 := hidden (MV2.out.trans hMv3)
   clear hA3 hMv3 A2 MV2 MP RP LT hS2 hsm
   go_wp2_with fail
   clear hHeld
   refine hK.out _ _ ?_ (fun hHeld => ?_)
   . exact hS3
   clear hK K
   refine wpAnyH_done (by kernel_rfl) ?_ _
   clear hHeld
   clear hS hS3
   go_wp2
   go_roundw
   case rel => exact ⟨j + 1, fm3, by omega, by go_num, HA3.out, HM3.out⟩
   case measure => simp [intOf]; omega
 have ej : j = ms.length := by omega
 subst ej
 have HMV := hidden hMv
 clear hMv
 go_wp2_with fail
 refine (l7Sync_any _ B y ns ds fm1 fd HA.out hfj hMj).mono ?_
 rintro e w3 ⟨rfl, fm3, hA3, hMv3⟩
 clear k0 k1 k2 k3 k4 k5 k6 k7 k8 k9 k10 k11 k12
 go_wp2
 refine bodyPost_end (v := .tuple #[]) (results_none rfl _ _ _) rfl ?_
 exact ⟨rfl, fm3, by rw [HMK.out, HST.out, ← hlj]; exact hA3, HMV.out.trans hMv3⟩

theorem l7Check_any (w : World) (B : Nat) (x : ArrN) (ms : List MemD) (ds : List (Int × List Int)) (fm fd : List Nat) (h : ArrAt w B x ms ds fm fd) (hf : x.fuse <= 1000) (hM : MsOk ms) (hg0 : 0 <= x.gen) (hg1 : x.gen <= 60000) :
 Calls Tryz.prog 95 #[.pointer (some ⟨B, 0, none⟩)] w fun e w' => e = .returned (.tuple #[]) /\ ∃ fm', ArrAt w' B (checkS (x, ms)).1 (checkS (x, ms)).2 ds fm' fd /\ Moved B fm w fm' w' := by
 obtain ⟨hMj, hsj, hlj⟩ := syncS_keeps (q := (x, ms)) hM hf ms.length
 have hfj := hsj.2.2.2.2.2.2.2.2.2.1
 have hgj := hsj.2.2.2.2.2.2.2.1
 have HC : Hid (checkS (x, ms) = if (syncS (x, ms) ms.length).1.down = true then syncS (x, ms) ms.length else markS ({(syncS (x, ms) ms.length).1 with tail := (syncS (x, ms) ms.length).1.seq}, (syncS (x, ms) ms.length).2)) := rfl
 go_enter Tryz.func95, Tryz.ntmps95
 go_wp2_with fail
 refine (l7Sync_any _ B x ms ds fm fd h hf hM).mono ?_
 rintro e w1 ⟨rfl, fm1, hA, hMv⟩
 generalize syncS (x, ms) ms.length = st at hA hMj hsj hlj hfj hgj HC
 obtain ⟨y, ns⟩ := st
 dsimp only at hA hMj hsj hlj hfj hgj HC
 have HA := hidden hA
 obtain ⟨bm, bd, cm, cd, X, hmm, hdd, hr, r1, r2⟩ := hA
 have X0 := X
 unfold arrC at X0
 obtain ⟨k0, k1, k2, k3, k4, k5, k6, k7, k8, k9, k10, k11, k12⟩ := X0.cells13
 have fz := X0.frozen
 cases hdn : y.down
 . rw [hdn] at k11
   have HC2 : Hid (checkS (x, ms) = markS ({y with tail := y.seq}, ns)) := by unfold Hid; rw [HC.out, if_neg (by simp [hdn])]
   have A2 : Hid (ArrAt (w1.setCell ⟨B, 7, none⟩ (.int .i64 y.seq)) B {y with tail := y.seq} ns ds fm1 fd) := ⟨bm, bd, cm, cd, X.set 7 (.int .i64 y.seq), hmm.setCell (g := B) (j := 7) r1 _, hdd.setCell (g := B) (j := 7) r2 _, hr, r1, r2⟩
   have M2 := hidden (hMv.trans (Moved.set (B := B) (j := 7) (fm := fm1) (.int .i64 y.seq)))
   clear X X0 hmm hdd hMv HA hdn
   go_wp2_with fail
   refine (l7Mark_any _ B {y with tail := y.seq} ns ds fm1 fd A2.out hfj hMj (by dsimp only; omega) (by dsimp only; omega)).mono ?_
   rintro e w3 ⟨rfl, fm3, hA3, hMv3⟩
   clear k0 k1 k2 k3 k4 k5 k6 k7 k8 k9 k10 k11 k12 fz
   go_wp2
   refine bodyPost_end (v := .tuple #[]) (results_none rfl _ _ _) rfl ?_
   exact ⟨rfl, fm3, by rw [HC2.out]; exact hA3, M2.out.trans hMv3⟩
 rw [hdn] at k11
 have HC2 : Hid (checkS (x, ms) = (y, ns)) := by unfold Hid; rw [HC.out, if_pos hdn]
 clear X X0 hmm hdd hdn
 go_wp2
 refine bodyPost_ret (v := .tuple #[]) (by simp [results, Tryz.results95, go_sem]) rfl ?_
 exact ⟨rfl, fm1, by rw [HC2.out]; exact HA.out, hMv⟩

theorem arr_numbers {w : World} {B : Nat} {x : ArrN} {ms : List MemD} {ds : List (Int × List Int)} {fm fd : List Nat} (h : ArrAt w B x ms ds fm fd) (m : Int) : ArrAt ((w.setCell ⟨B, 4, none⟩ (.int .i64 m)).setCell ⟨B, 5, none⟩ (.int .i64 0)) B {x with lost := m, built := 0} ms ds fm fd /\ ArrAt (w.setCell ⟨B, 12, none⟩ (.bool true)) B {x with broken := true} ms ds fm fd := by
 obtain ⟨bm, bd, cm, cd, X, hm, hd, hr, r1, r2⟩ := h
 exact ⟨⟨bm, bd, cm, cd, (X.set 4 _).set 5 _, (hm.setCell r1 _).setCell r1 _, (hd.setCell r2 _).setCell r2 _, hr, r1, r2⟩, ⟨bm, bd, cm, cd, X.set 12 _, hm.setCell r1 _, hd.setCell r2 _, hr, r1, r2⟩⟩
theorem arr_cells {w : World} {B : Nat} {x : ArrN} {ms : List MemD} {ds : List (Int × List Int)} {fm fd : List Nat} (h : ArrAt w B x ms ds fm fd) : w.cell? ⟨B, 4, none⟩ = some (.int .i64 x.lost) /\ w.cell? ⟨B, 5, none⟩ = some (.int .i64 x.built) /\ w.cell? ⟨B, 8, none⟩ = some (.int .i64 x.gen) /\ w.cell? ⟨B, 11, none⟩ = some (.bool x.down) /\ w.cell? ⟨B, 12, none⟩ = some (.bool x.broken) /\ ∀ j, w.frozen? ⟨B, j, none⟩ = false := by
 obtain ⟨bm, bd, cm, cd, X, _⟩ := h
 have fz := X.frozen
 unfold arrC at X
 obtain ⟨k0, k1, k2, k3, k4, k5, k6, k7, k8, k9, k10, k11, k12⟩ := X.cells13
 exact ⟨k4, k5, k8, k11, k12, fz⟩

def dn12 (d : Bool) : Int := if d = true then 6 else 0

def lostF (x : ArrN) (ms : List MemD) : Bool := decide (x.lost ≠ -1) && (ms.getD x.lost.toNat memZ).2.2.1
def lostT (x : ArrN) (ms : List MemD) : Bool := decide (x.lost ≠ -1) && !(ms.getD x.lost.toNat memZ).2.2.1
def mkC (x : ArrN) : Int := if x.broken = true then 5 else if 59990 <= x.gen then 7 else 0
def adoptK (x : ArrN) (ms : List MemD) (ds : List (Int × List Int)) : Int := if ask8 x ms ds = 0 then (if (lostT x ms && decide (x.s <= x.built)) = true then mkC x else 2) else ask8 x ms ds
theorem arr_lost {x : ArrN} {ms : List MemD} {ds : List (Int × List Int)} (ha : arrB x ms ds = true) : -1 <= x.lost /\ x.lost < (ms.length : Int) := by
 obtain ⟨_, _, p3, _, p5, _⟩ := arr_split.1 ha
 have h1 := (mems_iff.1 p3).2
 unfold lostB6 at p5
 simp only [Bool.and_eq_true, inB_iff] at p5
 have h2 := p5.1
 omega
theorem lost_none {x : ArrN} {ms : List MemD} (h : x.lost = -1) : lostF x ms = false /\ lostT x ms = false := by unfold lostF lostT; simp [h]
theorem lost_at {x : ArrN} {ms : List MemD} {d : MemD} (h : x.lost ≠ -1) (hd : ms[x.lost.toNat]? = some d) : lostF x ms = d.2.2.1 /\ lostT x ms = !d.2.2.1 := by unfold lostF lostT; rw [getD_at hd]; simp [h]
theorem mk_good {x : ArrN} (h : mkC x = 0) : x.broken = false /\ x.gen < 59990 := by
 unfold mkC at h
 cases hb : x.broken
 . rw [hb] at h
   by_cases hg : 59990 <= x.gen
   . simp [hg] at h
   exact ⟨rfl, by omega⟩
 rw [hb] at h; simp at h
theorem adopt_zero {x : ArrN} {ms : List MemD} {ds : List (Int × List Int)} (h : adoptK x ms ds = 0) : arrB x ms ds = true /\ x.down = false /\ lostT x ms = true /\ x.s <= x.built /\ x.broken = false /\ x.gen < 59990 := by
 unfold adoptK at h
 by_cases h0 : ask8 x ms ds = 0
 . rw [if_pos h0] at h
   cases hl : (lostT x ms && decide (x.s <= x.built))
   . rw [hl] at h; simp at h
   rw [hl, if_pos rfl] at h
   simp only [Bool.and_eq_true, decide_eq_true_eq] at hl
   exact ⟨(ask_good h0).1, (ask_good h0).2, hl.1, hl.2, mk_good h⟩
 rw [if_neg h0] at h; exact absurd h h0
def BldAt (w : World) (B : Nat) (x : ArrN) (ms : List MemD) (ds : List (Int × List Int)) (fm fd : List Nat) : Prop :=
 ∃ (bm bd : Option Addr) (cm cd : Nat), Box w B 97 (arrC x (.slice bm ms.length cm) (.slice bd ds.length cd)) /\ (tMemS 109 51).Mine w [.slice bm ms.length cm] ms fm /\ (tWrS 82).Mine w [.slice bd ds.length cd] ds fd /\ (∀ b ∈ fm, b ∉ fd) /\ B ∉ fm /\ B ∉ fd
theorem BldAt.turned {w w' : World} {B : Nat} {x : ArrN} {ms : List MemD} {ds : List (Int × List Int)} {fm fd : List Nat} (h : BldAt w B x ms ds fm fd) (hb : Below w.heap.size w w') : BldAt w' B x ms ds fm fd := by
 obtain ⟨bm, bd, cm, cd, X, hm, hd, hr, r1, r2⟩ := h
 exact ⟨bm, bd, cm, cd, X.below hb X.lt, hm.below hb, hd.below hb, hr, r1, r2⟩
def Stp (w : World) (B : Nat) (fm fd : List Nat) (ds : List (Int × List Int)) (q : ArrN × List MemD) (c : Int) (e : Ending) (w' : World) : Prop :=
 e = .returned (.int .i64 c) /\ ∃ fm' fd', BldAt w' B q.1 q.2 ds fm' fd' /\ Turned [B] w w' /\ (∀ b ∈ fm', b ∈ fm ∨ w.heap.size <= b) /\ ∀ b ∈ fd', b ∈ fd ∨ w.heap.size <= b
def turnQ (code : Int) (q p : ArrN × List MemD) : ArrN × List MemD := if code = 0 then q else p
def turnC (code : Int) (q : ArrN × List MemD) : Int := if code = 0 then dn12 q.1.down else code

abbrev DOp := Nat × Option (Option (Int × List Int))
def supM (d : MemD) (u : Sup) : MemD := (d.1, wsCS d.1 d.2.1 d.2.2.1 d.2.2.2 u, d.2.2.1, wsBS d.1 d.2.1 d.2.2.1 d.2.2.2 u)
def opF (o : DOp) (x : ArrN) : MemD -> MemD :=
 match o.2 with
 | none => flM
 | some none => fun d => supM d (supA x o.1)
 | some (some p) => fun d => wrM d p.1 p.2
def runS (q : ArrN × List MemD) (ops : List DOp) : ArrN × List MemD := ops.foldl (fun q o => doS q o.1 (opF o q.1)) q

theorem opX_down {x : ArrN} (h : x.down = true) : opX x = x := by unfold opX; rw [if_pos h]
theorem opB_down {x : ArrN} (h : x.down = true) : opB x = false := by unfold opB; simp [h]
theorem opX_no {x : ArrN} (h : opB x = false) : (opX x).down = true := by
 unfold opB at h
 unfold opX
 by_cases hd : x.down = true
 . rw [if_pos hd]; exact hd
 rw [if_neg hd]
 simp at h
 rw [if_pos (h (by simpa using hd))]
theorem opX_yes {x : ArrN} (h : opB x = true) : (opX x).down = false := by
 unfold opB at h
 simp at h
 unfold opX
 rw [if_neg (by simp [h.1]), if_neg h.2]
 split
 . exact h.1
 exact h.1
theorem doS_down {q : ArrN × List MemD} (i : Nat) (f : MemD -> MemD) (h : q.1.down = true) : doS q i f = q := by
 unfold doS
 rw [opB_down h, opX_down h]
 split
 . rfl
 rfl
theorem runS_down {q : ArrN × List MemD} (h : q.1.down = true) : ∀ ops : List DOp, runS q ops = q
 | [] => rfl
 | o :: ops => by
  unfold runS
  rw [List.foldl_cons, doS_down _ _ h]
  exact runS_down h ops
theorem runS_app (q : ArrN × List MemD) (a b : List DOp) : runS q (a ++ b) = runS (runS q a) b := by unfold runS; rw [List.foldl_append]
theorem runS_one (q : ArrN × List MemD) (o : DOp) : runS q [o] = doS q o.1 (opF o q.1) := rfl
theorem runS_next {q : ArrN × List MemD} {ops : List DOp} {j : Nat} {o : DOp} (h : ops[j]? = some o) : runS q (ops.take (j + 1)) = doS (runS q (ops.take j)) o.1 (opF o (runS q (ops.take j)).1) := by
 rw [List.take_add_one, h, runS_app]
 rfl
theorem runS_end {q : ArrN × List MemD} {ops : List DOp} {j : Nat} (h : (runS q (ops.take j)).1.down = true) : runS q ops = runS q (ops.take j) := by
 have := runS_app q (ops.take j) (ops.drop j)
 rw [List.take_append_drop, runS_down h] at this
 exact this
theorem supM_ok (u : Sup) (d : MemD) (h : memB d.1 d.2.1 d.2.2.2 = true) : memB (supM d u).1 (supM d u).2.1 (supM d u).2.2.2 = true := by
 unfold supM wsCS wsBS
 dsimp only
 by_cases hu : supB u = true
 . rw [if_pos hu, if_pos hu]
   exact wrM_ok (u.gen % 2) (putD u) d h
 rw [if_neg hu, if_neg hu]
 exact h
theorem supM_put {u : Sup} (h : supB u = true) (d : MemD) : supM d u = wrM d (u.gen % 2) (putD u) := by
 unfold supM wsCS wsBS wrM
 rw [if_pos h, if_pos h]
theorem opF_ok (o : DOp) (x : ArrN) (d : MemD) (h : memB d.1 d.2.1 d.2.2.2 = true) : memB (opF o x d).1 (opF o x d).2.1 (opF o x d).2.2.2 = true := by
 obtain ⟨i, k⟩ := o
 rcases k with _ | _ | ⟨n, s⟩
 . exact flM_ok d h
 . exact supM_ok _ d h
 exact wrM_ok n s d h
theorem opF_flag (o : DOp) (x : ArrN) (d : MemD) : (opF o x d).2.2.1 = d.2.2.1 := by
 obtain ⟨i, k⟩ := o
 rcases k with _ | _ | ⟨n, s⟩ <;> rfl
theorem runS_keeps {q : ArrN × List MemD} (h : MsOk q.2) (hf : q.1.fuse <= 1000) : ∀ ops : List DOp, MsOk (runS q ops).2 /\ SameN q.1 (runS q ops).1 /\ (runS q ops).2.length = q.2.length := by
 intro ops
 induction ops generalizing q with
 | nil => exact ⟨h, SameN.refl hf, rfl⟩
 | cons o ops ih =>
  have h1 := doS_same (q := q) o.1 (opF o q.1) hf
  obtain ⟨a, b, c⟩ := ih (q := doS q o.1 (opF o q.1)) (doS_ok h (opF_ok o q.1)) h1.2.2.2.2.2.2.2.2.2.1
  exact ⟨a, h1.trans b, c.trans (doS_len _ _ _)⟩
theorem opF_opX (o : DOp) (x : ArrN) : opF o (opX x) = opF o x := by
 obtain ⟨i, k⟩ := o
 rcases k with _ | _ | ⟨n, s⟩
 . rfl
 . have e : supA (opX x) i = supA x i := by
    unfold opX
    split
    . rfl
    split
    . rfl
    split <;> rfl
   show (fun d => supM d (supA (opX x) i)) = fun d => supM d (supA x i)
   rw [e]
 rfl
def flagAt (ms : List MemD) (k : Nat) : Bool := (ms.getD k memZ).2.2.1
theorem flag_set {ms : List MemD} {i : Nat} {d : MemD} (h : d.2.2.1 = flagAt ms i) (k : Nat) : flagAt (ms.set i d) k = flagAt ms k := by
 unfold flagAt
 by_cases hk : k = i
 . subst hk
   by_cases hl : k < ms.length
   . rw [List.getD_eq_getElem?_getD, List.getElem?_set_self hl]
     exact h
   rw [List.set_eq_of_length_le (by omega)]
 rw [List.getD_eq_getElem?_getD, List.getD_eq_getElem?_getD, List.getElem?_set_ne (fun e => hk e.symm)]
theorem doS_flag (q : ArrN × List MemD) (i : Nat) {f : MemD -> MemD} (hf : ∀ d, (f d).2.2.1 = d.2.2.1) (k : Nat) : flagAt (doS q i f).2 k = flagAt q.2 k := by
 unfold doS
 split
 . rfl
 split
 . exact flag_set (hf _) k
 rfl
theorem runS_flag (q : ArrN × List MemD) (ops : List DOp) (k : Nat) : flagAt (runS q ops).2 k = flagAt q.2 k := by
 induction ops generalizing q with
 | nil => rfl
 | cons o ops ih => exact (ih (doS q o.1 (opF o q.1))).trans (doS_flag q o.1 (opF_flag o q.1) k)
def opsL (K : Nat -> DOp) (ms : List MemD) (j : Nat) : List DOp := ((List.range j).filter fun i => !flagAt ms i).map K
theorem opsL_succ (K : Nat -> DOp) (ms : List MemD) (j : Nat) : opsL K ms (j + 1) = opsL K ms j ++ (if flagAt ms j = true then [] else [K j]) := by
 unfold opsL
 rw [List.range_succ, List.filter_append, List.map_append]
 cases h : flagAt ms j <;> simp [h]
theorem opsL_len (K : Nat -> DOp) (ms : List MemD) (j : Nat) : (opsL K ms j).length <= j := by
 unfold opsL
 rw [List.length_map]
 exact Nat.le_trans (List.length_filter_le _ _) (by rw [List.length_range]; exact Nat.le_refl _)
theorem opsL_mem {K : Nat -> DOp} {ms : List MemD} {j : Nat} {o : DOp} (h : o ∈ opsL K ms j) : ∃ i, i < j /\ flagAt ms i = false /\ o = K i := by
 unfold opsL at h
 obtain ⟨i, hi, rfl⟩ := List.mem_map.1 h
 obtain ⟨h1, h2⟩ := List.mem_filter.1 hi
 exact ⟨i, List.mem_range.1 h1, by simpa using h2, rfl⟩
theorem run_list {K : Nat -> DOp} (hK : ∀ i, (K i).1 = i) (q : ArrN × List MemD) : ∀ j, runS q (opsL K q.2 j) = (List.range j).foldl (fun q i => doS q i (opF (K i) q.1)) q
 | 0 => rfl
 | j + 1 => by
  rw [opsL_succ, runS_app, List.range_succ, List.foldl_append, ← run_list hK q j]
  cases h : flagAt q.2 j
  . rw [if_neg (by simp), runS_one, hK]
    rfl
  rw [if_pos rfl]
  have h2 : flagAt (runS q (opsL K q.2 j)).2 j = true := by rw [runS_flag]; exact h
  show runS q (opsL K q.2 j) = doS (runS q (opsL K q.2 j)) j _
  unfold flagAt at h2
  unfold doS
  rw [if_pos h2]
def flushK (i : Nat) : DOp := (i, none)
def supK (i : Nat) : DOp := (i, some none)
theorem run_sync (q : ArrN × List MemD) (j : Nat) : runS q (opsL flushK q.2 j) = syncS q j := run_list (fun _ => rfl) q j
theorem run_sups {q : ArrN × List MemD} (h : MsOk q.2) (hf : q.1.fuse <= 1000) (hu : ∀ i : Nat, i < q.2.length -> supB (supA q.1 i) = true) : ∀ j, j <= q.2.length -> runS q (opsL supK q.2 j) = supsS q j
 | 0, _ => rfl
 | j + 1, hj => by
  have ih := run_sups h hf hu j (by omega)
  have hs := (supsS_keeps h hf j).2.1
  rw [run_list (fun _ => rfl)] at ih ⊢
  rw [List.range_succ, List.foldl_append, ih, supsS_succ]
  have e : supA (supsS q j).1 j = supA q.1 j := by
   obtain ⟨a1, a2, a3, a4, a5, a6, a7, a8, a9, _⟩ := hs
   unfold supA
   rw [a1, a2, a3, a4, a5, a7, a8]
  have hu2 : supB (supA (supsS q j).1 j) = true := by rw [e]; exact hu j (by omega)
  show doS (supsS q j) j (fun d => supM d (supA (supsS q j).1 j)) = putS _ _ _ _
  unfold putS
  congr 1
  funext d
  exact supM_put hu2 d

def Enters (F : FuncId) (args : Array Value) : Prop := ∀ w : World, Sem.run Tryz.prog (callFunc F args) w = .ok (.enter F args) w
theorem enters_of {F : FuncId} {fn : Func} (hf : Tryz.prog.funcs[F]? = some fn) (hn : (fn.name == "runtime.NumGoroutine") = false) (hb : fn.body.isNone = false) (args : Array Value) : Enters F args := by
 intro w
 have hb' : ¬ fn.body = none := fun h => by rw [h] at hb; cases hb
 have hn' : ¬ fn.name = "runtime.NumGoroutine" := by simpa using hn
 simp [go_sem, callFunc, hf, hn', hb']
def OpRuns (B : Nat) (fp : List Nat) (F : FuncId) (cap : Array Value) (o : DOp) (w : World) : Prop :=
 ∀ (x : ArrN) (ms : List MemD) (ds : List (Int × List Int)) (fm fd : List Nat), ArrAt w B x ms ds fm fd -> MsOk ms -> (∀ b ∈ fp, b ≠ B /\ b ∉ fm) -> o.1 < ms.length ->
  Calls Tryz.prog F cap w fun e w' => e = .returned (.tuple #[]) /\ ∃ fm', ArrAt w' B x (ms.set o.1 (opF o x (ms.getD o.1 memZ))) ds fm' fd /\ Moved B fm w fm' w'
def opOw (B : Nat) (w : World) (vs : List Value) (o : DOp) (fp : List Nat) : Prop :=
 ∃ F cap, vs = [.func (Fn.func F) #[] cap] /\ Enters F cap /\ (∀ b ∈ fp, b < w.heap.size) /\ ∀ w' : World, (∀ b ∈ fp, w'.heap[b]? = w.heap[b]?) -> w.heap.size <= w'.heap.size -> OpRuns B fp F cap o w'
abbrev opTy (B : Nat) : Ty where
 n := 1
 D := DOp
 rd := opOw B
 ow := opOw B
 owRd := fun h => h
 rdLen := fun ⟨_, _, h, _⟩ => by rw [h]; rfl
 rdLt := fun ⟨_, _, _, _, h, _⟩ => h
 rdKept := fun ⟨F, cap, h, he, hl, hr⟩ hk hs => ⟨F, cap, h, he, fun b hb => Nat.lt_of_lt_of_le (hl b hb) hs, fun w'' hk2 hs2 => hr w'' (fun b hb => (hk2 b hb).trans (hk b hb)) (Nat.le_trans hs hs2)⟩
 owKept := fun ⟨F, cap, h, he, hl, hr⟩ hk hs => ⟨F, cap, h, he, fun b hb => Nat.lt_of_lt_of_le (hl b hb) hs, fun w'' hk2 hs2 => hr w'' (fun b hb => (hk2 b hb).trans (hk b hb)) (Nat.le_trans hs hs2)⟩
abbrev tOps (B : Nat) : Ty := rowTy (opTy B) 131

abbrev goneV : Value := .iface 119 (.agg #[])
abbrev goneC : List PanicEntry := [{ v := goneV, recovered := false }]
def EndOf (y : ArrN) (e : Ending) : Prop := if y.down = true then e = .panicked goneC else e = .returned (.tuple #[])
theorem EndOf.gone {y : ArrN} (h : y.down = true) : EndOf y (.panicked goneC) := by unfold EndOf; rw [if_pos h]
theorem EndOf.fine {y : ArrN} (h : y.down = false) : EndOf y (.returned (.tuple #[])) := by unfold EndOf; rw [if_neg (by simp [h])]
def Did (w : World) (B : Nat) (fm : List Nat) (ds : List (Int × List Int)) (fd : List Nat) (q : ArrN × List MemD) (e : Ending) (w' : World) : Prop := EndOf q.1 e /\ ∃ fm', ArrAt w' B q.1 q.2 ds fm' fd /\ Moved B fm w fm' w'

theorem dop_at {w : World} {B n cap j : Nat} {bo : Option Addr} {ops : List DOp} {o : DOp} {fo : List Nat} (h : (tOps B).Mine w [.slice bo n cap] ops fo) (hj : ops[j]? = some o) :
 ∃ (g : Nat) (F : FuncId) (cp : Array Value) (fp : List Nat), bo = some ⟨g, 0, none⟩ /\ g < w.heap.size /\ w.cell? ⟨g, j, none⟩ = some (.func (Fn.func F) #[] cp) /\ Enters F cp /\ (∀ b ∈ fp, b ∈ fo) /\ ∀ w' : World, (∀ b ∈ fp, w'.heap[b]? = w.heap[b]?) -> w.heap.size <= w'.heap.size -> OpRuns B fp F cp o w' := by
 obtain ⟨h, _⟩ := h
 have hjl := (List.getElem?_eq_some_iff.1 hj).1
 rcases h with ⟨_, h2, _⟩ | ⟨b, cap', cur, fps, h1, h2, h3, h4, h5, h6, h7, h8⟩
 . rw [h2] at hjl; simp at hjl
 simp only [List.cons.injEq, Value.slice.injEq, and_true] at h1
 obtain ⟨f, hf, F, cp, hv, he, hl, hr⟩ := h8 j o hj
 refine ⟨b, F, cp, f, h1.1, (Array.getElem?_eq_some_iff.1 h4).1, ?_, he, fun b' hb' => ?_, hr⟩
 . rw [cell_of_row w b _ cur 131 (0, 0) h4]
   have : ((cur.toList.drop (j * 1)).take 1)[0]? = some (.func (Fn.func F) #[] cp) := by rw [hv]; rfl
   rw [List.getElem?_take, if_pos (by omega), List.getElem?_drop] at this
   simpa using this
 rw [h6]
 exact List.mem_cons_of_mem _ (List.mem_flatten.2 ⟨f, List.mem_of_getElem? hf, hb'⟩)

theorem puts_arr {w : World} {B : Nat} {T : TypeId} {z0 z1 z2 z3 z4 z5 z6 z7 z8 z9 z10 z11 z12 : Value} (h : Box w B T #[z0, z1, z2, z3, z4, z5, z6, z7, z8, z9, z10, z11, z12]) (c0 c1 c2 c3 c4 c5 c6 c7 c8 c9 c10 c11 c12 : Value) : Box (puts w B [(0, c0), (1, c1), (2, c2), (3, c3), (4, c4), (5, c5), (6, c6), (7, c7), (8, c8), (9, c9), (10, c10), (11, c11), (12, c12)]) B T #[c0, c1, c2, c3, c4, c5, c6, c7, c8, c9, c10, c11, c12] := by
 simp only [puts]
 have := (((((((((((((h.set 0 c0).set 1 c1).set 2 c2).set 3 c3).set 4 c4).set 5 c5).set 6 c6).set 7 c7).set 8 c8).set 9 c9).set 10 c10).set 11 c11).set 12 c12)
 simpa using this

abbrev StM := ArrN × List MemD -> (ArrN × List MemD) × Int
def runT : List StM -> ArrN × List MemD -> (ArrN × List MemD) × Int
 | [], q => (q, 0)
 | f :: fs, q => if (f q).2 = 0 then runT fs (f q).1 else f q
def Thr (w : World) (B : Nat) (fm fd : List Nat) (ds : List (Int × List Int)) (q : ArrN × List MemD) (c : Int) (e : Ending) (w' : World) : Prop :=
 ∃ (bm bd : Option Addr) (cm cd : Nat) (fm' fd' : List Nat), e = .returned (.tuple #[.agg (arrC q.1 (.slice bm q.2.length cm) (.slice bd ds.length cd)), .int .i64 c]) /\ (tMemS 109 51).Mine w' [.slice bm q.2.length cm] q.2 fm' /\ (tWrS 82).Mine w' [.slice bd ds.length cd] ds fd' /\ (∀ b ∈ fm', b ∉ fd') /\ (∀ b ∈ fm', b ∈ fm ∨ w.heap.size <= b) /\ (∀ b ∈ fd', b ∈ fd ∨ w.heap.size <= b) /\ Turned [B] w w'
theorem runT_good {fs : List StM} {q : ArrN × List MemD} {j : Nat} {f : StM} (hf : fs[j]? = some f) (h : (f q).2 = 0) : runT (fs.drop j) q = runT (fs.drop (j + 1)) (f q).1 := by
 obtain ⟨hj, rfl⟩ := List.getElem?_eq_some_iff.1 hf
 rw [List.drop_eq_getElem_cons hj]
 exact if_pos h
theorem runT_end {fs : List StM} {q : ArrN × List MemD} {j : Nat} {f : StM} (hf : fs[j]? = some f) (h : (f q).2 ≠ 0) : runT (fs.drop j) q = f q := by
 obtain ⟨hj, rfl⟩ := List.getElem?_eq_some_iff.1 hf
 rw [List.drop_eq_getElem_cons hj]
 exact if_neg h
theorem thr_out {w W wr : World} {B R : Nat} {fm fd fm1 fd1 : List Nat} {y : ArrN} {ns : List MemD} {ds : List (Int × List Int)} {c : Int} {bm bd : Option Addr} {cm cd : Nat} {e : Ending} (hR : w.heap.size <= R) (hRW : R < W.heap.size) (hA : Below w.heap.size w W) (T : Turned [B] W wr) (he : e = .returned (.tuple #[.agg (arrC y (.slice bm ns.length cm) (.slice bd ds.length cd)), .int .i64 c]))
 (hm : (tMemS 109 51).Mine wr [.slice bm ns.length cm] ns fm1) (hd : (tWrS 82).Mine wr [.slice bd ds.length cd] ds fd1) (hr : ∀ b ∈ fm1, b ∉ fd1) (rm : ∀ b ∈ fm1, (b ∈ fm /\ b < w.heap.size) ∨ W.heap.size <= b) (rd : ∀ b ∈ fd1, (b ∈ fd /\ b < w.heap.size) ∨ W.heap.size <= b) : Thr w B fm fd ds (y, ns) c e (puts wr R [(0, .int .i64 y.id), (1, .int .i64 y.n), (2, .int .i64 y.s), (3, .slice bm ns.length cm), (4, .int .i64 y.lost), (5, .int .i64 y.built), (6, .int .i64 y.seq), (7, .int .i64 y.tail), (8, .int .i64 y.gen), (9, .slice bd ds.length cd), (10, .int .i64 y.fuse), (11, .bool y.down), (12, .bool y.broken)]) := by
 have hbt := puts_but R [(0, .int .i64 y.id), (1, .int .i64 y.n), (2, .int .i64 y.s), (3, .slice bm ns.length cm), (4, .int .i64 y.lost), (5, .int .i64 y.built), (6, .int .i64 y.seq), (7, .int .i64 y.tail), (8, .int .i64 y.gen), (9, .slice bd ds.length cd), (10, .int .i64 y.fuse), (11, .bool y.down), (12, .bool y.broken)] wr
 have z1 := hA.size
 have z2 := T.size
 refine ⟨bm, bd, cm, cd, fm1, fd1, he, hm.but hbt (fun b hb => ?_), hd.but hbt (fun b hb => ?_), hr, fun b hb => ?_, fun b hb => ?_, ⟨hbt.os.trans (T.os.trans hA.os), hbt.tape.trans (T.tape.trans hA.tape), hbt.output.trans (T.output.trans hA.output), Nat.le_trans (Nat.le_trans z1 z2) hbt.size, fun k hk hne => (hbt.block k (by omega) (by omega)).trans ((T.block k (by omega) hne).trans (hA.block k hk))⟩⟩
 . rcases rm b hb with h | h <;> omega
 . rcases rd b hb with h | h <;> omega
 . rcases rm b hb with h | h
   . exact .inl h.1
   exact .inr (by omega)
 rcases rd b hb with h | h
 . exact .inl h.1
 exact .inr (by omega)

theorem through_any (w : World) (B : Nat) (q0 : ArrN × List MemD) (ds : List (Int × List Int)) (fm fd : List Nat) (h : BldAt w B q0.1 q0.2 ds fm fd) (fs : List StM) (Fs : Nat -> FuncId) (g cap : Nat) (hg : g < w.heap.size) (hgB : g ≠ B) (hcap : fs.length <= cap /\ cap <= 2097152)
 (hrow : ∀ k, k < fs.length -> w.cell? ⟨g, k, none⟩ = some (.func (Fn.func (Fs k)) #[.pointer (some ⟨B, 0, none⟩)] #[])) (hen : ∀ k, k < fs.length -> Enters (Fs k) #[.pointer (some ⟨B, 0, none⟩)])
 (P : ArrN × List MemD -> Prop) (hP0 : P q0) (hP : ∀ (k : Nat) (f : StM) (q : ArrN × List MemD), fs[k]? = some f -> P q -> P (f q).1)
 (hst : ∀ (k : Nat) (f : StM), fs[k]? = some f -> ∀ (w' : World) (fm' fd' : List Nat) (q : ArrN × List MemD), BldAt w' B q.1 q.2 ds fm' fd' -> P q -> Calls Tryz.prog (Fs k) #[.pointer (some ⟨B, 0, none⟩)] w' (Stp w' B fm' fd' ds (f q).1 (f q).2)) :
 Calls Tryz.prog 48 #[.pointer (some ⟨B, 0, none⟩), .slice (some ⟨g, 0, none⟩) fs.length cap] w (Thr w B fm fd ds (runT fs q0).1 (runT fs q0).2) := by
 have hA := new_below w (.cells #[.int .i64 0, .int .i64 0, .int .i64 0, .slice none 0 0, .int .i64 0, .int .i64 0, .int .i64 0, .int .i64 0, .int .i64 0, .slice none 0 0, .int .i64 0, .bool false, .bool false] 33)
 have R0 := Box.new w 33 #[.int .i64 0, .int .i64 0, .int .i64 0, .slice none 0 0, .int .i64 0, .int .i64 0, .int .i64 0, .int .i64 0, .int .i64 0, .slice none 0 0, .int .i64 0, .bool false, .bool false]
 have H0 := hidden (h.turned hA)
 have hlm : ∀ b ∈ fm, b < w.heap.size := by obtain ⟨_, _, _, _, _, hm, _⟩ := h; exact hm.lt
 have hld : ∀ b ∈ fd, b < w.heap.size := by obtain ⟨_, _, _, _, _, _, hd, _⟩ := h; exact hd.lt
 have zB : B < w.heap.size := by obtain ⟨_, _, _, _, X, _⟩ := h; exact X.lt
 have HROW := hidden (fun k hk => (hA.cell (p := ⟨g, k, none⟩) hg).trans (hrow k hk))
 have HST := hidden hst
 have HEN := hidden hen
 have HPP := hidden hP
 have HP0 := hidden hP0
 clear h hrow hst hen hP hP0
 go_enter Tryz.func48, Tryz.ntmps48
 go_wp2
 have zW : w.heap.size < (w.alloc (.cells #[.int .i64 0, .int .i64 0, .int .i64 0, .slice none 0 0, .int .i64 0, .int .i64 0, .int .i64 0, .int .i64 0, .int .i64 0, .slice none 0 0, .int .i64 0, .bool false, .bool false] 33)).heap.size := by simp
 generalize w.alloc (.cells #[.int .i64 0, .int .i64 0, .int .i64 0, .slice none 0 0, .int .i64 0, .int .i64 0, .int .i64 0, .int .i64 0, .int .i64 0, .slice none 0 0, .int .i64 0, .bool false, .bool false] 33) = W at hA R0 H0 HROW zW ⊢
 obtain ⟨R, hR⟩ : ∃ R, w.heap.size = R := ⟨_, rfl⟩
 have hR1 : w.heap.size <= R /\ R < W.heap.size := by omega
 have hBR : ¬ B = R /\ ¬ g = R := by omega
 rw [hR] at R0 ⊢
 clear hR zW
 go_loopw [11] (fun i wr => ∃ (j : Nat) (q : ArrN × List MemD) (fm1 fd1 : List Nat), j <= fs.length /\ i = .int .i64 j /\ runT (fs.drop j) q = runT fs q0 /\ P q /\ BldAt wr B q.1 q.2 ds fm1 fd1 /\ Turned [B] W wr /\ (∀ b ∈ fm1, b ∈ fm ∨ W.heap.size <= b) /\ ∀ b ∈ fd1, b ∈ fd ∨ W.heap.size <= b) (fun i _ => fs.length - (intOf i).toNat)
 case atStart => exact ⟨0, q0, fm, fd, Nat.zero_le _, rfl, rfl, HP0.out, H0.out, Turned.refl _ _, fun b hb => .inl hb, fun b hb => .inl hb⟩
 obtain ⟨j, q, fm1, fd1, hj, rfl, hrun, hPq, hB, hT, hf1, hf2⟩ := hrel
 have R1 := R0.turned hT (by simp; omega)
 have zT := hT.size
 by_cases hjn : j < fs.length
 . have i1 : (0 : Int) <= (j : Int) := by omega
   have i2 : (j : Int) < (fs.length : Int) := by omega
   have hfj : fs[j]? = some (fs[j]'hjn) := List.getElem?_eq_getElem hjn
   generalize fs[j]'hjn = f at hfj
   have hcr : wr.cell? ⟨g, j, none⟩ = some (.func (Fn.func (Fs j)) #[.pointer (some ⟨B, 0, none⟩)] #[]) := (World.cell?_of_block (w := W) (hT.block g (by have := hA.size; omega) (by simpa using hgB))).trans (HROW.out j hjn)
   have hen := HEN.out j hjn
   have HC := hidden (HST.out j f hfj wr fm1 fd1 q hB hPq)
   have HPN := hidden (HPP.out j f q hfj hPq)
   have HG := hidden (fun h => runT_good (q := q) hfj h)
   have HE := hidden (fun h => runT_end (q := q) hfj h)
   have HRUN := hidden hrun
   have HT := hidden hT
   have HF1 := hidden hf1
   have HF2 := hidden hf2
   generalize Fs j = Fj at hcr hen HC
   have hcf : ∀ w : World, Sem.run Tryz.prog (callFunc Fj #[.pointer (some ⟨B, 0, none⟩)]) w = .ok (.enter Fj #[.pointer (some ⟨B, 0, none⟩)]) w := hen
   clear hrun hT hf1 hf2 hB hPq hen
   go_wp2_with fail
   refine HC.out.mono ?_
   rintro e w1 ⟨rfl, fm2, fd2, B2, T2, g1, g2⟩
   have HT2 := hidden (HT.out.trans T2)
   have R2 := R1.turned T2 (by simp; omega)
   have HM2 : Hid (∀ b ∈ fm2, b ∈ fm ∨ W.heap.size <= b) := fun b hb => by rcases g1 b hb with h | h; exact HF1.out b h; exact .inr (by omega)
   have HD2 : Hid (∀ b ∈ fd2, b ∈ fd ∨ W.heap.size <= b) := fun b hb => by rcases g2 b hb with h | h; exact HF2.out b h; exact .inr (by omega)
   clear g1 g2 T2 R1 HC hcr hcf
   generalize f q = p at HPN HG HE B2 ⊢
   obtain ⟨⟨y, ns⟩, c⟩ := p
   dsimp only at HPN HG HE B2 ⊢
   by_cases hc : c = 0
   . have e0 : (c != 0) = false := by simpa using hc
     have HN := hidden ((HG.out hc).symm.trans HRUN.out)
     have HB2 := hidden B2
     clear hc B2
     go_wp2
     go_roundw
     case rel => exact ⟨j + 1, (y, ns), fm2, fd2, by omega, by go_num, HN.out, HPN.out, HB2.out, HT2.out, HM2.out, HD2.out⟩
     case measure => simp [intOf]; omega
   have e0 : (c != 0) = true := by simpa using hc
   have HN := hidden (HRUN.out.symm.trans (HE.out hc))
   obtain ⟨vm, vd, cvm, cvd, X2, mm2, dd2, hr2, _, _⟩ := B2
   unfold arrC at X2
   have HO := hidden (thr_out (y := y) (c := c) (e := .returned (.tuple #[.agg (arrC y _ _), .int .i64 c])) (fm := fm) (fd := fd) hR1.1 hR1.2 hA HT2.out rfl mm2 dd2 hr2 (fun b hb => by rcases HM2.out b hb with h | h; exact .inl ⟨h, hlm b h⟩; exact .inr h) (fun b hb => by rcases HD2.out b hb with h | h; exact .inl ⟨h, hld b h⟩; exact .inr h))
   obtain ⟨t0, t1, t2, t3, t4, t5, t6, t7, t8, t9, t10, t11, t12⟩ := X2.cells13
   obtain ⟨s0, s1, s2, s3, s4, s5, s6, s7, s8, s9, s10, s11, s12⟩ := R2.cells13
   have fzr := R2.frozen
   unfold arrC at HO
   simp only [puts] at HO
   clear hc X2 mm2 dd2 R2
   go_wp2
   refine bodyPost_ret (v := .tuple #[.agg #[.int .i64 y.id, .int .i64 y.n, .int .i64 y.s, .slice vm ns.length cvm, .int .i64 y.lost, .int .i64 y.built, .int .i64 y.seq, .int .i64 y.tail, .int .i64 y.gen, .slice vd ds.length cvd, .int .i64 y.fuse, .bool y.down, .bool y.broken], .int .i64 c]) (by simp [results, Tryz.results48, go_sem, s0, s1, s2, s3, s4, s5, s6, s7, s8, s9, s10, s11, s12]) rfl ?_
   rw [HN.out]; exact HO.out
 have ej : j = fs.length := by omega
 have HN : Hid (runT fs q0 = (q, 0)) := by unfold Hid; rw [← hrun, ej, List.drop_length]; rfl
 obtain ⟨y, ns⟩ := q
 dsimp only at hB
 obtain ⟨vm, vd, cvm, cvd, X2, mm2, dd2, hr2, _, _⟩ := hB
 unfold arrC at X2
 have HO := hidden (thr_out (y := y) (c := 0) (e := .returned (.tuple #[.agg (arrC y _ _), .int .i64 0])) (fm := fm) (fd := fd) hR1.1 hR1.2 hA hT rfl mm2 dd2 hr2 (fun b hb => by rcases hf1 b hb with h | h; exact .inl ⟨h, hlm b h⟩; exact .inr h) (fun b hb => by rcases hf2 b hb with h | h; exact .inl ⟨h, hld b h⟩; exact .inr h))
 obtain ⟨t0, t1, t2, t3, t4, t5, t6, t7, t8, t9, t10, t11, t12⟩ := X2.cells13
 obtain ⟨s0, s1, s2, s3, s4, s5, s6, s7, s8, s9, s10, s11, s12⟩ := R1.cells13
 have fzr := R1.frozen
 unfold arrC at HO
 simp only [puts] at HO
 clear X2 mm2 dd2 R1 hrun ej hT hf1 hf2 hPq
 go_wp2
 refine bodyPost_ret (v := .tuple #[.agg #[.int .i64 y.id, .int .i64 y.n, .int .i64 y.s, .slice vm ns.length cvm, .int .i64 y.lost, .int .i64 y.built, .int .i64 y.seq, .int .i64 y.tail, .int .i64 y.gen, .slice vd ds.length cvd, .int .i64 y.fuse, .bool y.down, .bool y.broken], .int .i64 0]) (by simp [results, Tryz.results48, go_sem, s0, s1, s2, s3, s4, s5, s6, s7, s8, s9, s10, s11, s12]) rfl ?_
 rw [HN.out]; exact HO.out

theorem arr_len {x : ArrN} {ms : List MemD} {ds : List (Int × List Int)} (h : arrB x ms ds = true) : 3 <= x.n /\ x.n <= 5 /\ (ms.length : Int) = x.n := by
 unfold arrB memsB at h
 simp only [Bool.and_eq_true, geoB_iff, decide_eq_true_eq] at h
 exact ⟨h.1.1, h.1.2.1, h.2.2.1.2⟩
theorem ms_light {ns : List MemD} (h : MsOk ns) (hl : ns.length <= 5) : wtMemS ns <= 10005 := by
 have h1 := sumL_bound (ns.map wtMem) 2000 (fun y hy => by
  obtain ⟨d, hd, rfl⟩ := List.mem_map.1 hy
  obtain ⟨i, hi⟩ := List.mem_iff_getElem?.1 hd
  obtain ⟨ss, cs, f, bs⟩ := d
  exact memB_light (h i _ hi) f)
 rw [List.length_map] at h1
 unfold wtMemS
 omega
theorem out_light {x : ArrN} {ms : List MemD} {ds : List (Int × List Int)} {q : ArrN × List MemD} (h : arrB x ms ds = true) (hk : MsOk q.2) (hl : q.2.length = ms.length) (hw : wtArr ms ds <= 1048576) : wtArr q.2 ds <= 2097152 := by
 have h1 := arr_len h
 have h2 := ms_light hk (by omega)
 unfold wtArr at hw ⊢
 omega
theorem markS_keeps {q : ArrN × List MemD} (h : MsOk q.2) (hf : q.1.fuse <= 1000) : MsOk (markS q).2 /\ (markS q).2.length = q.2.length := by
 obtain ⟨a, b, c⟩ := supsS_keeps (q := ({q.1 with gen := q.1.gen + 1}, q.2)) h hf q.2.length
 obtain ⟨a2, _, c2⟩ := syncS_keeps (q := supsS ({q.1 with gen := q.1.gen + 1}, q.2) q.2.length) a b.2.2.2.2.2.2.2.2.2.1 q.2.length
 exact ⟨a2, c2.trans c⟩
theorem checkS_keeps {q : ArrN × List MemD} (h : MsOk q.2) (hf : q.1.fuse <= 1000) : MsOk (checkS q).2 /\ (checkS q).2.length = q.2.length := by
 obtain ⟨a, b, c⟩ := syncS_keeps (q := q) h hf q.2.length
 unfold checkS
 split
 . exact ⟨a, c⟩
 obtain ⟨a2, c2⟩ := markS_keeps (q := ({(syncS q q.2.length).1 with tail := (syncS q q.2.length).1.seq}, (syncS q q.2.length).2)) a b.2.2.2.2.2.2.2.2.2.1
 exact ⟨a2, c2.trans c⟩

theorem runT_one (f : StM) (q : ArrN × List MemD) : runT [f] q = f q := by
 unfold runT
 by_cases h : (f q).2 = 0
 . rw [if_pos h]
   exact Prod.ext rfl h.symm
 rw [if_neg h]
theorem light_keeps {x : ArrN} {ms : List MemD} {ds : List (Int × List Int)} {q : ArrN × List MemD} (h : arrB x ms ds = true) (hk : MsOk q.2) (hl : q.2.length = ms.length) (hw : wtWrS ds <= 2000000) : wtArr q.2 ds <= 2097152 := by
 have h1 := arr_len h
 have h2 := ms_light hk (by omega)
 unfold wtArr
 omega
theorem Stp.from {w w1 w' : World} {B : Nat} {fm fd : List Nat} {ds : List (Int × List Int)} {q : ArrN × List MemD} {c : Int} {e : Ending} (h : Stp w1 B fm fd ds q c e w') (hb : Below w.heap.size w w1) : Stp w B fm fd ds q c e w' := by
 obtain ⟨he, fm', fd', h1, T, h2, h3⟩ := h
 have z := hb.size
 exact ⟨he, fm', fd', h1, ⟨T.os.trans hb.os, T.tape.trans hb.tape, T.output.trans hb.output, Nat.le_trans z T.size, fun k hk hn => (T.block k (by omega) hn).trans (hb.block k hk)⟩, fun b hb => by rcases h2 b hb with h | h; exact .inl h; exact .inr (by omega), fun b hb => by rcases h3 b hb with h | h; exact .inl h; exact .inr (by omega)⟩

def adoptA (q : ArrN × List MemD) : ArrN × List MemD := if (checkS q).1.down = true then checkS q else markS ({(checkS q).1 with lost := -1, built := 0}, (checkS q).2)
def adoptT (ds : List (Int × List Int)) (q : ArrN × List MemD) : (ArrN × List MemD) × Int := (turnQ (adoptK q.1 q.2 ds) (adoptA q) q, turnC (adoptK q.1 q.2 ds) (adoptA q))
def adoptO (x : ArrN) (ms : List MemD) (ds : List (Int × List Int)) : ArrN × List MemD := (adoptT ds (x, ms)).1
def adoptC (x : ArrN) (ms : List MemD) (ds : List (Int × List Int)) : Int := (adoptT ds (x, ms)).2
theorem adopt_no {x : ArrN} {ms : List MemD} {ds : List (Int × List Int)} {c : Int} (h : adoptK x ms ds = c) (hc : c ≠ 0) : adoptO x ms ds = (x, ms) /\ adoptC x ms ds = c := by
 unfold adoptO adoptC adoptT turnQ turnC
 dsimp only
 rw [h, if_neg hc, if_neg hc]
 exact ⟨rfl, rfl⟩
theorem adopt_yes {x : ArrN} {ms : List MemD} {ds : List (Int × List Int)} (h : adoptK x ms ds = 0) : adoptO x ms ds = adoptA (x, ms) /\ adoptC x ms ds = dn12 (adoptA (x, ms)).1.down := by
 unfold adoptO adoptC adoptT turnQ turnC
 dsimp only
 rw [h, if_pos rfl, if_pos rfl]
 exact ⟨rfl, rfl⟩
theorem markS_same {q : ArrN × List MemD} (h : MsOk q.2) (hf : q.1.fuse <= 1000) : SameN {q.1 with gen := q.1.gen + 1} (markS q).1 := by
 obtain ⟨a, b, c⟩ := supsS_keeps (q := ({q.1 with gen := q.1.gen + 1}, q.2)) h hf q.2.length
 obtain ⟨_, b2, _⟩ := syncS_keeps (q := supsS ({q.1 with gen := q.1.gen + 1}, q.2) q.2.length) a b.2.2.2.2.2.2.2.2.2.1 q.2.length
 exact b.trans b2
theorem check_num {q : ArrN × List MemD} (h : MsOk q.2) (hf : q.1.fuse <= 1000) (hd : (checkS q).1.down = false) : (checkS q).1.id = q.1.id /\ (checkS q).1.n = q.1.n /\ (checkS q).1.s = q.1.s /\ (checkS q).1.tail = q.1.seq /\ (checkS q).1.gen = q.1.gen + 1 /\ (checkS q).1.fuse <= 1000 := by
 obtain ⟨a, b, c⟩ := syncS_keeps (q := q) h hf q.2.length
 unfold checkS at hd ⊢
 split at hd
 . rename_i h1
   rw [h1] at hd
   cases hd
 rename_i h1
 rw [if_neg h1]
 have k := markS_same (q := ({(syncS q q.2.length).1 with tail := (syncS q q.2.length).1.seq}, (syncS q q.2.length).2)) a b.2.2.2.2.2.2.2.2.2.1
 obtain ⟨a1, a2, a3, a4, a5, a6, a7, a8, a9, a10, a11⟩ := k
 obtain ⟨b1, b2, b3, b4, b5, b6, b7, b8, b9, b10, b11⟩ := b
 dsimp only at a1 a2 a3 a7 a8
 exact ⟨a1.trans b1, a2.trans b2, a3.trans b3, a7.trans b6, a8.trans (by rw [b8]), a10⟩
theorem adopt_keeps0 {q : ArrN × List MemD} (h : MsOk q.2) (hf : q.1.fuse <= 1000) : MsOk (adoptA q).2 /\ (adoptA q).2.length = q.2.length := by
 obtain ⟨a, c⟩ := checkS_keeps (q := q) h hf
 unfold adoptA
 split
 . exact ⟨a, c⟩
 rename_i hd
 have hn := check_num h hf (by simpa using hd)
 obtain ⟨a2, c2⟩ := markS_keeps (q := ({(checkS q).1 with lost := -1, built := 0}, (checkS q).2)) a hn.2.2.2.2.2
 exact ⟨a2, c2.trans c⟩
theorem adoptO_wt {x : ArrN} {ms : List MemD} {ds : List (Int × List Int)} (hw : wtArr ms ds <= 1048576) : wtArr (adoptO x ms ds).2 ds <= 2097152 := by
 unfold adoptO adoptT turnQ
 dsimp only
 split
 . rename_i h
   obtain ⟨fc, mk, _⟩ := arr_facts (adopt_zero h).1
   obtain ⟨a, c⟩ := adopt_keeps0 (q := (x, ms)) mk fc
   exact out_light (adopt_zero h).1 a c hw
 exact Nat.le_trans hw (by omega)
theorem adoptT_keeps {ds : List (Int × List Int)} {q : ArrN × List MemD} (hd : wtWrS ds <= 2000000) (hw : wtArr q.2 ds <= 2097152) : wtArr (adoptT ds q).1.2 ds <= 2097152 := by
 unfold adoptT turnQ
 dsimp only
 split
 . rename_i h
   obtain ⟨fc, mk, _⟩ := arr_facts (adopt_zero h).1
   obtain ⟨a, c⟩ := adopt_keeps0 (q := q) mk fc
   exact light_keeps (adopt_zero h).1 a c hd
 exact hw

theorem burn_any (w : World) (B : Nat) (x : ArrN) (ms : List MemD) (ds : List (Int × List Int)) (fm fd : List Nat) (h : ArrAt w B x ms ds fm fd) (hf : x.fuse <= 1000) (hdn : x.down = false) :
 Calls Tryz.prog 146 #[.pointer (some ⟨B, 0, none⟩)] w fun e w' => EndOf (opX x) e /\ ArrAt w' B (opX x) ms ds fm fd /\ Moved B fm w fm w' := by
 obtain ⟨bm, bd, cm, cd, X, hm, hd, hr, r1, r2⟩ := h
 unfold arrC at X
 obtain ⟨k0, k1, k2, k3, k4, k5, k6, k7, k8, k9, k10, k11, k12⟩ := X.cells13
 have fz := X.frozen
 by_cases h0 : x.fuse = 0
 . have HX : Hid (opX x = {x with down := true, fuse := -1}) := by unfold Hid opX; rw [if_neg (by simp [hdn]), if_pos h0]
   have Y := (X.set 11 (.bool true)).set 10 (.int .i64 (-1))
   have M := hidden ((hm.setCell (g := B) (j := 11) r1 (.bool true)).setCell (g := B) (j := 10) r1 (.int .i64 (-1)))
   have D := hidden ((hd.setCell (g := B) (j := 11) r2 (.bool true)).setCell (g := B) (j := 10) r2 (.int .i64 (-1)))
   have MV := hidden ((Moved.set (B := B) (j := 11) (fm := fm) (w := w) (.bool true)).trans (Moved.set (B := B) (j := 10) (.int .i64 (-1))))
   have YH := hidden Y
   have HE : Hid (EndOf (opX x) (.panicked goneC)) := EndOf.gone (by rw [HX.out])
   rw [h0] at k10
   clear Y X hm hd hdn h0
   go_enter Tryz.func146, Tryz.ntmps146
   go_wp2
   refine ⟨rfl, HE.out, ?_, MV.out⟩
   rw [HX.out]; exact ⟨bm, bd, cm, cd, YH.out, M.out, D.out, hr, r1, r2⟩
 have e0 : (x.fuse == 0) = false := by simpa using h0
 by_cases h1 : 0 < x.fuse
 . have hw : IntKind.i64.wrap (x.fuse - 1) = x.fuse - 1 := IntWalk.i64_in _ (by omega)
   have HX : Hid (opX x = {x with fuse := x.fuse - 1}) := by unfold Hid opX; rw [if_neg (by simp [hdn]), if_neg h0, if_pos h1]
   have HE : Hid (EndOf (opX x) (.returned (.tuple #[]))) := EndOf.fine (by rw [HX.out]; exact hdn)
   have YH := hidden (X.set 10 (.int .i64 (x.fuse - 1)))
   have M := hidden (hm.setCell (g := B) (j := 10) r1 (.int .i64 (x.fuse - 1)))
   have D := hidden (hd.setCell (g := B) (j := 10) r2 (.int .i64 (x.fuse - 1)))
   have MV := hidden (Moved.set (B := B) (j := 10) (fm := fm) (w := w) (.int .i64 (x.fuse - 1)))
   clear X hm hd hdn h0
   go_enter Tryz.func146, Tryz.ntmps146
   go_wp2
   refine bodyPost_end (v := .tuple #[]) (results_none rfl _ _ _) rfl ?_
   exact ⟨HE.out, by rw [HX.out]; exact ⟨bm, bd, cm, cd, YH.out, M.out, D.out, hr, r1, r2⟩, MV.out⟩
 have HX : Hid (opX x = x) := by unfold Hid opX; rw [if_neg (by simp [hdn]), if_neg h0, if_neg h1]
 have HE : Hid (EndOf (opX x) (.returned (.tuple #[]))) := EndOf.fine (by rw [HX.out]; exact hdn)
 have YH := hidden X
 clear hdn h0 X
 go_enter Tryz.func146, Tryz.ntmps146
 go_wp2
 refine bodyPost_end (v := .tuple #[]) (results_none rfl _ _ _) rfl ?_
 exact ⟨HE.out, by rw [HX.out]; exact ⟨bm, bd, cm, cd, YH.out, hm, hd, hr, r1, r2⟩, Moved.refl _ _ _⟩

theorem perform_any (w : World) (B : Nat) (x : ArrN) (ms : List MemD) (ds : List (Int × List Int)) (fm fd : List Nat) (h : ArrAt w B x ms ds fm fd) (hf : x.fuse <= 1000) (hdn : x.down = false) (hM : MsOk ms)
 (bo : Option Addr) (co : Nat) (ops : List DOp) (fo : List Nat) (ho : (tOps B).Mine w [.slice bo ops.length co] ops fo) (hdis : ∀ b ∈ fo, b ≠ B /\ b ∉ fm) (hop : ∀ o ∈ ops, o.1 < ms.length /\ flagAt ms o.1 = false) :
 Calls Tryz.prog 116 #[.pointer (some ⟨B, 0, none⟩), .slice bo ops.length co] w (Did w B fm ds fd (runS (x, ms) ops)) := by
 have HK := hidden (fun j : Nat => runS_keeps (q := (x, ms)) hM hf (ops.take j))
 have HF := hidden (fun j k : Nat => runS_flag (x, ms) (ops.take j) k)
 have H0 := hidden h
 have hlo := ho.lt
 have hmx := (row_length ho.rd).2
 have HO := hidden ho
 have HD := hidden hdis
 have HP := hidden hop
 have HN : Hid (x.down = false) := hdn
 have zz := h.lt
 have zm := h.ltm.1
 clear h ho hdis hop hdn
 have hS : ∀ wr fm1, Moved B fm w fm1 wr -> Turned (B :: fm) w wr /\ ∀ b ∈ fm1, b ∈ fm ∨ w.heap.size <= b := fun _ _ h => h
 go_enter Tryz.func116, Tryz.ntmps116
 go_wp2
 go_loopw [8] (fun i wr => ∃ (j : Nat) (fm1 : List Nat), j <= ops.length /\ i = .int .i64 j /\ (runS (x, ms) (ops.take j)).1.down = false /\ ArrAt wr B (runS (x, ms) (ops.take j)).1 (runS (x, ms) (ops.take j)).2 ds fm1 fd /\ Moved B fm w fm1 wr) (fun i _ => ops.length - (intOf i).toNat)
 case atStart => exact ⟨0, fm, Nat.zero_le _, rfl, HN.out, H0.out, Moved.refl _ _ _⟩
 obtain ⟨j, fm1, hj, rfl, hdj, hA, hMv⟩ := hrel
 obtain ⟨hMj, hsj, hlj⟩ := HK.out j
 have hfj := hsj.2.2.2.2.2.2.2.2.2.1
 by_cases hjn : j < ops.length
 . have i2 : (j : Int) < (ops.length : Int) := by omega
   have i1 : (0 : Int) <= (j : Int) := by omega
   have hoj : ops[j]? = some (ops[j]'hjn) := List.getElem?_eq_getElem hjn
   obtain ⟨p1, p2⟩ := HP.out _ (List.mem_of_getElem? hoj)
   generalize ops[j]'hjn = o at hoj p1 p2
   have HS := hidden (runS_next (q := (x, ms)) hoj)
   have HE := hidden (fun h => runS_end (q := (x, ms)) (ops := ops) (j := j + 1) h)
   have hfl := (HF.out j o.1).trans p2
   generalize hst : runS (x, ms) (ops.take j) = st at hA hMj hsj hlj hfj HS hdj hfl
   obtain ⟨y, ns⟩ := st
   dsimp only at hA hMj hsj hlj hfj hdj hfl
   clear hst
   obtain ⟨g, F, cp, fp, rfl, hg, hc, hen, hfp, hrun⟩ := dop_at HO.out hoj
   have hgf : g ∈ fo := by
    obtain ⟨hh, _⟩ := HO.out
    rcases hh with ⟨h1, _⟩ | ⟨b, cap', cur, fps, h1, _, _, _, _, h6, _⟩
    . simp at h1
    simp at h1; rw [h6, h1.1]; exact List.mem_cons_self
   have hnf : ∀ b ∈ fo, b ∉ (B :: fm) := fun b hb hm => by
    rcases List.mem_cons.1 hm with e | hm
    . exact (HD.out b hb).1 e
    exact (HD.out b hb).2 hm
   have hcr : wr.cell? ⟨g, j, none⟩ = some (.func (Fn.func F) #[] cp) := (World.cell?_of_block (w := w) (hMv.1.block g hg (hnf g hgf))).trans hc
   have MV := hidden hMv
   have HA := hidden hA
   have HR := hidden hrun
   have HFP := hidden hfp
   have HNF := hidden hnf
   clear hA hMv hrun hfp hnf hc
   go_wp2_with fail
   refine (burn_any _ B y ns ds fm1 fd HA.out hfj hdj).mono ?_
   rintro e w1 ⟨he, hA1, hMv1⟩
   cases hob : opB y
   . have hdd := opX_no hob
     unfold EndOf at he
     rw [if_pos hdd] at he
     subst he
     have hget : ns[o.1]? = some (ns.getD o.1 memZ) := by rw [List.getD_eq_getElem?_getD, List.getElem?_eq_getElem (by omega)]; rfl
     have HV : Hid (runS (x, ms) ops = (opX y, ns)) := by
      have h9 : runS (x, ms) (ops.take (j + 1)) = (opX y, ns) := HS.out.trans (doS_no hget hfl hob)
      exact (HE.out (by rw [h9]; exact hdd)).trans h9
     have HD2 : Hid (Did w B fm ds fd (runS (x, ms) ops) (.panicked goneC) w1) := by
      unfold Hid Did
      rw [HV.out]
      exact ⟨EndOf.gone hdd, fm1, hA1, MV.out.trans hMv1⟩
     clear hA1 hMv1
     go_wp2
     exact ⟨rfl, HD2.out⟩
   have hdd := opX_yes hob
   unfold EndOf at he
   rw [if_neg (by simp [hdd])] at he
   subst he
   have hget : ns[o.1]? = some (ns.getD o.1 memZ) := by rw [List.getD_eq_getElem?_getD, List.getElem?_eq_getElem (by omega)]; rfl
   have HV : Hid (runS (x, ms) (ops.take (j + 1)) = (opX y, ns.set o.1 (opF o (opX y) (ns.getD o.1 memZ)))) := by
    refine HS.out.trans ((doS_yes hget hfl hob).trans ?_)
    rw [opF_opX]
   have MV1 := hidden (MV.out.trans hMv1)
   have hsz := MV1.out.size
   have R1 := HR.out w1 (fun b hb => MV1.out.1.block b (hlo b (HFP.out b hb)) (HNF.out b (HFP.out b hb))) hsz (opX y) ns ds fm1 fd hA1 hMj (fun b hb => ⟨(HD.out b (HFP.out b hb)).1, fun hm => by
    rcases MV.out.2 b hm with h1 | h1
    . exact (HD.out b (HFP.out b hb)).2 h1
    have := hlo b (HFP.out b hb); omega⟩) (by omega)
   have RH := hidden R1
   clear hA1 hMv1 R1
   have hcf : ∀ w : World, Sem.run Tryz.prog (callFunc F cp) w = .ok (.enter F cp) w := hen
   go_wp2_with fail
   refine RH.out.mono ?_
   rintro e w2 ⟨rfl, fm2, hA2, hMv2⟩
   have HB := hidden (MV1.out.trans hMv2)
   have HA2 := hidden hA2
   clear hA2 hMv2 hcr
   go_wp2
   go_roundw
   case rel => exact ⟨j + 1, fm2, by omega, by go_num, by rw [HV.out]; exact hdd, by rw [HV.out]; exact HA2.out, HB.out⟩
   case measure => simp [intOf]; omega
 have ej : j = ops.length := by omega
 have i2 : ¬ (j : Int) < (ops.length : Int) := by omega
 subst ej
 rw [List.take_length] at hA hdj
 have HD2 : Hid (Did w B fm ds fd (runS (x, ms) ops) (.returned (.tuple #[])) wr) := ⟨EndOf.fine hdj, fm1, hA, hMv⟩
 clear hA hMv
 go_wp2
 refine bodyPost_end (v := .tuple #[]) (results_none rfl _ _ _) rfl ?_
 exact HD2.out

theorem Tryz.infoOp : (Tryz.prog.info? 131).map (fun i => (i.zero, i.size, i.bytes)) = some (some .nilFunc, 1, 8) := by kernel_rfl

theorem opsOf_any (w : World) (B : Nat) (x : ArrN) (ms : List MemD) (ds : List (Int × List Int)) (fm fd : List Nat) (h : ArrAt w B x ms ds fm fd) (hl : ms.length <= 2097152) (K : Nat -> DOp) (F : FuncId) (cap : Array Value)
 (hen : ∀ m : Nat, Enters F (#[.int .i64 (m : Int)] ++ cap)) (hop : ∀ (m : Nat) (w' : World), m < ms.length -> Below w.heap.size w w' -> Calls Tryz.prog F (#[.int .i64 (m : Int)] ++ cap) w' fun e w'' => ∃ v, e = .returned v /\ (opTy B).Own w'' w'.heap.size w''.heap.size [v] (K m) /\ Below w'.heap.size w' w'') :
 Calls Tryz.prog 147 #[.pointer (some ⟨B, 0, none⟩), .func (Fn.func F) #[] cap] w fun e w' => ∃ bo co, e = .returned (.slice bo (opsL K ms ms.length).length co) /\ (tOps B).Own w' w.heap.size w'.heap.size [.slice bo (opsL K ms ms.length).length co] (opsL K ms ms.length) /\ Below w.heap.size w w' := by
 obtain ⟨i4, hi4, hz0, hz1, hz2⟩ := info_parts Tryz.infoOp
 obtain ⟨bm, bd, cm, cd, X, hmm, hdd, hr, r1, r2⟩ := h
 have zB := X.lt
 have k3 : w.cell? ⟨B, 3, none⟩ = some (.slice bm ms.length cm) := by
  unfold arrC at X
  exact X.cells13.2.2.2.1
 have hmx := (row_length hmm.rd).2
 have ML := hidden (lit0_mine (t := opTy B) (E := 131) w)
 have HB0 := hidden (new_below w (.cells #[] 131))
 have MM := hidden hmm
 have HOP := hidden hop
 have k3' : (w.alloc (.cells #[] 131)).cell? ⟨B, 3, none⟩ = some (.slice bm ms.length cm) := (HB0.out.cell (p := ⟨B, 3, none⟩) zB).trans k3
 clear hmm hdd X hop
 go_enter Tryz.func147, Tryz.ntmps147
 go_wp2
 go_loopw [5, 14] (fun v i wr => ∃ (j : Nat) (fp : List Nat), j <= ms.length /\ i = .int .i64 j /\ (tOps B).Mine wr [v] (opsL K ms j) fp /\ (∀ b ∈ fp, w.heap.size <= b) /\ Below w.heap.size w wr) (fun _ i _ => ms.length - (intOf i).toNat)
 case atStart => exact ⟨0, [w.heap.size], Nat.zero_le _, rfl, ML.out, by simp, HB0.out⟩
 obtain ⟨j, fp, hj, rfl, hm, hfp, hb⟩ := hrel
 have hs := hb.size
 by_cases hjn : j < ms.length
 . have i2 : (j : Int) < (ms.length : Int) := by omega
   have i1 : (0 : Int) <= (j : Int) := by omega
   obtain ⟨g, rfl⟩ := row_head MM.out (by omega)
   have hdj : ms[j]? = some (ms[j]'(by omega)) := List.getElem?_eq_getElem (by omega)
   generalize ms[j]'(by omega) = d at hdj
   obtain ⟨hgl, a0, a1, a3, c0, c1, c3, ss, cs, f, bs, rfl, q0, q1, q2, q3, _, _, _⟩ := disk_at MM.out hdj
   have p0 := (hb.cell (p := ⟨g, j * 4, none⟩) hgl).trans q0
   have p1 := (hb.cell (p := ⟨g, j * 4 + 1, none⟩) hgl).trans q1
   have p2 := (hb.cell (p := ⟨g, j * 4 + 2, none⟩) hgl).trans q2
   have p3 := (hb.cell (p := ⟨g, j * 4 + 3, none⟩) hgl).trans q3
   have hfl : flagAt ms j = f := by unfold flagAt; rw [getD_at hdj]
   have HL := hidden (opsL_succ K ms j)
   rw [hfl] at HL
   clear q0 q1 q2 q3 hdj hfl
   cases f
   . have HL2 : Hid (opsL K ms (j + 1) = opsL K ms j ++ [K j]) := HL.out
     have hkl := opsL_len K ms j
     have L1 : Hid ((opsL K ms j).length + 1 <= maxLen) := by unfold Hid maxLen; omega
     have L2 : Hid (((opsL K ms j).length + 1) * 8 <= 140737488355328) := by unfold Hid; omega
     have HM := hidden hm
     have HFP := hidden hfp
     have HB := hidden hb
     have hcf : ∀ w : World, Sem.run Tryz.prog (callFunc F (#[.int .i64 (j : Int)] ++ cap)) w = .ok (.enter F (#[.int .i64 (j : Int)] ++ cap)) w := hen j
     clear hm hfp hb HL hkl
     go_wp2_with fail
     have bA := Below.andThen HB.out (new_below wr (.cells #[.slice a0 ss.length c0, .slice a1 cs.length c1, .bool false, .slice a3 bs.length c3] 51))
     refine (HOP.out j _ hjn bA).mono ?_
     rintro e w1 ⟨v, rfl, ov, b1⟩
     obtain ⟨fpx, mx, rx⟩ := ov.mine
     obtain ⟨F1, cp1, hv, _⟩ := mx.1
     have hv' : v = .func (Fn.func F1) #[] cp1 := by simpa using hv
     subst hv'
     have bw1 := Below.andThen (new_below wr (.cells #[.slice a0 ss.length c0, .slice a1 cs.length c1, .bool false, .slice a3 bs.length c3] 51)) b1
     have bB := new_below w1 (.cells #[.func (Fn.func F1) #[] cp1] 131)
     have zA : (wr.alloc (.cells #[.slice a0 ss.length c0, .slice a1 cs.length c1, .bool false, .slice a3 bs.length c3] 51)).heap.size = wr.heap.size + 1 := by simp
     have z1 := b1.size
     have z2 : (w1.alloc (.cells #[.func (Fn.func F1) #[] cp1] 131)).heap.size = w1.heap.size + 1 := by simp
     have M1 := hidden ((HM.out.below bw1).alloc (.cells #[.func (Fn.func F1) #[] cp1] 131))
     have M2 := hidden (mx.alloc (.cells #[.func (Fn.func F1) #[] cp1] 131))
     have NN := hidden (news_new w1 #[.func (Fn.func F1) #[] cp1] 131)
     have hfl := HM.out.lt
     have DJ : Hid (∀ b ∈ fp, b ∉ fpx) := fun b hb hb' => by
      have h1 := hfl b hb
      have h2 := rx b hb'
      omega
     have RX := hidden rx
     have BB := hidden (Below.andThen bA (Below.andThen b1 bB))
     clear ov mx rx hv bA bw1 bB b1 hfl
     go_wp2_with (at_builtin; refine wpList_appT (opTy B) rfl _ _ 121 rfl 131 i4 .nilFunc 8 Tryz.underlying121 hi4 hz0 hz1 hz2 rfl Nat.zero_lt_one u5 (opsL K ms j) fp rfl ?_ ⟨w1.heap.size, 0, none⟩ 1 [.func (Fn.func F1) #[] cp1] (K j) fpx rfl ?_ ?_ ?_ ?_ ?_ ?_ ?_; exact M1.out; exact M2.out; exact DJ.out; exact NN.out; (intro u hu; simp at hu; rw [hu]; rfl); exact L1.out; exact L2.out; intro v2 w2 fp2 m1 m2 m3; rw [← HL2.out] at m1; have N1 := hidden m1; have N2 := hidden m2; have N3 := hidden m3; clear m1 m2 m3)
     have hf2 : ∀ b ∈ fp2, w.heap.size <= b := fun b hb => by
      rcases N2.out b hb with h | h | h
      . exact HFP.out b h
      . have := RX.out b h
        omega
      have h1 := h.1
      omega
     have HBB := hidden (BB.out.trans (N3.out.below (N := w.heap.size) (by omega) (fun b hb => HFP.out b hb)))
     have HF2 := hidden hf2
     clear hf2
     go_roundw
     case rel => exact ⟨j + 1, fp2, by omega, by go_num, N1.out, HF2.out, HBB.out⟩
     case measure => simp [intOf]; omega
   have HL2 : Hid (opsL K ms (j + 1) = opsL K ms j) := by unfold Hid; rw [HL.out, if_pos rfl, List.append_nil]
   have HM := hidden (hm.alloc (.cells #[.slice a0 ss.length c0, .slice a1 cs.length c1, .bool true, .slice a3 bs.length c3] 51))
   have HB := hidden (Below.andThen hb (new_below wr (.cells #[.slice a0 ss.length c0, .slice a1 cs.length c1, .bool true, .slice a3 bs.length c3] 51)))
   have HFP := hidden hfp
   clear hm hb hfp HL
   go_wp2
   go_roundw
   case rel => exact ⟨j + 1, fp, by omega, by go_num, by rw [HL2.out]; exact HM.out, HFP.out, HB.out⟩
   case measure => simp [intOf]; omega
 have e : j = ms.length := by omega
 subst e
 have hltb := hm.lt
 obtain ⟨bo, co, hv⟩ := row_shape hm.rd
 subst hv
 have HO := hidden (hm.own (lo := w.heap.size) (hi := wr.heap.size) (fun b hb' => ⟨hfp b hb', hltb b hb'⟩))
 have i2 : ¬ ((ms.length : Int) < (ms.length : Int)) := by omega
 clear hm
 go_wp2
 go_ret
 exact ⟨_, _, rfl, HO.out, hb⟩

theorem flushOp1_runs (w : World) (B p q m : Nat) (hp : Box w p 53 #[.pointer (some ⟨B, 0, none⟩)]) (hq : Box w q 3 #[.int .i64 (m : Int)]) : OpRuns B [p, q] 173 #[.pointer (some ⟨p, 0, none⟩), .pointer (some ⟨q, 0, none⟩)] (flushK m) w := by
 intro x ms ds fm fd hA hM hdis hlt
 dsimp only [flushK] at hlt
 obtain ⟨bm, bd, cm, cd, X, hmm, hdd, hr, r1, r2⟩ := hA
 have hm63 := (row_length hmm.rd).2
 obtain ⟨g, rfl⟩ := row_head hmm (by omega)
 have hdj : ms[m]? = some (ms[m]'(by omega)) := List.getElem?_eq_getElem (by omega)
 generalize ms[m]'(by omega) = d at hdj
 have hgm : ms.getD m memZ = d := getD_at hdj
 obtain ⟨hgl, a0, a1, a3, c0, c1, c3, ss, cs, f, bs, rfl, q0, q1, q2, q3, p0, p1, p3⟩ := disk_at hmm hdj
 have X0 := X
 unfold arrC at X0
 obtain ⟨k0, k1, k2, k3, k4, k5, k6, k7, k8, k9, k10, k11, k12⟩ := X0.cells13
 have zp := hp.lt
 have cp := hp.cell 0
 have zq := hq.lt
 have cq := hq.cell 0
 have hwt := memB_light (hM m _ hdj) f
 dsimp only at hwt
 have zB := X.lt
 have XH := hidden X
 have MH := hidden hmm
 have DH := hidden hdd
 have R0 := hidden p0
 have R1 := hidden p1
 have R3 := hidden p3
 have HG := hidden hgm
 have hS : w.drew.cell? ⟨p, 0, none⟩ = some (.pointer (some ⟨B, 0, none⟩)) /\ w.drew.cell? ⟨q, 0, none⟩ = some (.int .i64 (m : Int)) /\ w.drew.cell? ⟨B, 3, none⟩ = some (.slice (some ⟨g, 0, none⟩) ms.length cm) /\ w.drew.cell? ⟨g, m * 4, none⟩ = some (.slice a0 ss.length c0) /\ w.drew.cell? ⟨g, m * 4 + 1, none⟩ = some (.slice a1 cs.length c1) /\ w.drew.cell? ⟨g, m * 4 + 2, none⟩ = some (.bool f) /\ w.drew.cell? ⟨g, m * 4 + 3, none⟩ = some (.slice a3 bs.length c3) := ⟨cp, cq, k3, q0, q1, q2, q3⟩
 have i1 : (0 : Int) <= (m : Int) := by omega
 have i3 : (m : Int) < (ms.length : Int) := by omega
 clear X X0 hmm hdd p0 p1 p3 hM hdj hgm hdis
 go_enter Tryz.func173, Tryz.ntmps173
 go_wp2_with fail
 refine Upto.start (S := fun w' => w'.cell? ⟨p, 0, none⟩ = some (.pointer (some ⟨B, 0, none⟩)) /\ w'.cell? ⟨q, 0, none⟩ = some (.int .i64 (m : Int)) /\ w'.cell? ⟨B, 3, none⟩ = some (.slice (some ⟨g, 0, none⟩) ms.length cm) /\ w'.cell? ⟨g, m * 4, none⟩ = some (.slice a0 ss.length c0) /\ w'.cell? ⟨g, m * 4 + 1, none⟩ = some (.slice a1 cs.length c1) /\ w'.cell? ⟨g, m * 4 + 2, none⟩ = some (.bool f) /\ w'.cell? ⟨g, m * 4 + 3, none⟩ = some (.slice a3 bs.length c3)) (k := 14) (by kernel_rfl) ?_
 refine Upto.t 0 hS ?_
 refine Upto.t 1 hS ?_
 refine Upto.t 2 hS ?_
 refine Upto.t 3 hS ?_
 refine Upto.t 4 hS ?_
 refine Upto.t 5 hS ?_
 refine Upto.t 6 hS ?_
 refine Upto.t 7 hS ?_
 refine Upto.t 8 hS ?_
 refine Upto.t 9 hS ?_
 refine Upto.t 10 hS ?_
 refine Upto.t 11 hS ?_
 refine Upto.one (i := 12) (by kernel_rfl) rfl (fun K hK => ?_)
 go_simp
 refine (implFlushMem_any _ 109 _ _ _ _ _ _ _ _ _ ss cs f bs R0.out.drew R1.out.drew R3.out.drew (by omega)).mono ?_
 rintro e w2 ⟨u0, u1, u3, rfl, o2, b2'⟩
 have b2 : Below w.heap.size w w2 := (Below.refl w.heap.size w).drew.trans b2'
 have o2b : (tMem 109).Own w2 w.heap.size w2.heap.size [u0, u1, .bool f, u3] _ := o2
 obtain ⟨d0, l0, f0, d1, l1, f1, d3, l3, f3, hv0, hv1, hv3⟩ := mem_slices o2b
 subst hv0 hv1 hv3
 obtain ⟨fpx, mx, rx⟩ := o2b.mine
 obtain ⟨cOld, fz, hgm, fm9, hA9, hMv9⟩ := arr_store (m := m) XH.out MH.out DH.out hr r1 r2 b2 (by omega) mx (fun b hb => (rx b hb).1)
 obtain ⟨o0, t0⟩ := cOld 0 (by omega)
 obtain ⟨o1, t1⟩ := cOld 1 (by omega)
 obtain ⟨o2', t2⟩ := cOld 2 (by omega)
 obtain ⟨o3, t3⟩ := cOld 3 (by omega)
 rw [Nat.add_zero] at t0
 have HA := hidden hA9
 have HMV := hidden hMv9
 have hS2 : w2.cell? ⟨p, 0, none⟩ = some (.pointer (some ⟨B, 0, none⟩)) /\ w2.cell? ⟨q, 0, none⟩ = some (.int .i64 (m : Int)) /\ w2.cell? ⟨B, 3, none⟩ = some (.slice (some ⟨g, 0, none⟩) ms.length cm) /\ w2.cell? ⟨g, m * 4, none⟩ = some (.slice a0 ss.length c0) /\ w2.cell? ⟨g, m * 4 + 1, none⟩ = some (.slice a1 cs.length c1) /\ w2.cell? ⟨g, m * 4 + 2, none⟩ = some (.bool f) /\ w2.cell? ⟨g, m * 4 + 3, none⟩ = some (.slice a3 bs.length c3) := ⟨(b2.cell (p := ⟨p, 0, none⟩) zp).trans cp, (b2.cell (p := ⟨q, 0, none⟩) zq).trans cq, (b2.cell (p := ⟨B, 3, none⟩) zB).trans k3, (b2.cell (p := ⟨g, m * 4, none⟩) hgl).trans q0, (b2.cell (p := ⟨g, m * 4 + 1, none⟩) hgl).trans q1, (b2.cell (p := ⟨g, m * 4 + 2, none⟩) hgl).trans q2, (b2.cell (p := ⟨g, m * 4 + 3, none⟩) hgl).trans q3⟩
 have gB : ¬ g = B := fun e => r1 (e ▸ hgm)
 unfold put4 at HA HMV
 clear cp cq k3 q0 q1 q2 q3 o2 o2b b2 b2' mx rx cOld hA9 hMv9 XH MH DH R0 R1 R3 hwt
 go_wp2_with fail
 refine hK.out _ _ (fun _ => hS2) ?_
 clear hK K
 refine Upto.t 13 hS2 ?_
 refine Upto.one (i := 14) (by kernel_rfl) rfl (fun K hK => ?_)
 go_simp
 refine hK.out _ _ (fun h => absurd rfl h) ?_
 clear hK K
 refine Upto.done (by kernel_rfl) ?_ _
 clear hS hS2 t0 t1 t2 t3 fz
 go_wp2
 refine bodyPost_end (v := .tuple #[]) (results_none rfl _ _ _) rfl ?_
 refine ⟨rfl, fm9, ?_, HMV.out⟩
 show ArrAt _ B x (ms.set m (opF (flushK m) x (ms.getD m memZ))) ds fm9 fd
 rw [HG.out]
 exact HA.out

theorem flushOp_any (w : World) (B m : Nat) : Calls Tryz.prog 164 #[.pointer (some ⟨B, 0, none⟩), .int .i64 (m : Int)] w fun e w' => ∃ v, e = .returned v /\ (opTy B).Own w' w.heap.size w'.heap.size [v] (flushK m) /\ Below w.heap.size w w' := by
 have hmf : ∀ (fn : Fn) (first cap : Array Value) (w : World), (Instr.makeFunc fn first cap).run Tryz.prog w = .ok (.func fn first cap) w := fun _ _ _ _ => rfl
 have hb : Below w.heap.size w ((w.alloc (.cells #[.pointer (some ⟨B, 0, none⟩)] 53)).alloc (.cells #[.int .i64 (m : Int)] 3)) := ((Below.refl _ _).alloc (Nat.le_refl _) _).alloc (by simp) _
 have b0 : Box ((w.alloc (.cells #[.pointer (some ⟨B, 0, none⟩)] 53)).alloc (.cells #[.int .i64 (m : Int)] 3)) w.heap.size 53 #[.pointer (some ⟨B, 0, none⟩)] := (Box.new w _ _).alloc _
 have b1 := Box.new (w.alloc (.cells #[.pointer (some ⟨B, 0, none⟩)] 53)) 3 #[.int .i64 (m : Int)]
 rw [World.size_alloc] at b1
 have hsz : ((w.alloc (.cells #[.pointer (some ⟨B, 0, none⟩)] 53)).alloc (.cells #[.int .i64 (m : Int)] 3)).heap.size = w.heap.size + 1 + 1 := by simp
 have HO : Hid ((opTy B).Own ((w.alloc (.cells #[.pointer (some ⟨B, 0, none⟩)] 53)).alloc (.cells #[.int .i64 (m : Int)] 3)) w.heap.size ((w.alloc (.cells #[.pointer (some ⟨B, 0, none⟩)] 53)).alloc (.cells #[.int .i64 (m : Int)] 3)).heap.size [.func (Fn.func 173) #[] #[.pointer (some ⟨w.heap.size, 0, none⟩), .pointer (some ⟨w.heap.size + 1, 0, none⟩)]] (flushK m)) := by
  refine ⟨[w.heap.size, w.heap.size + 1], ⟨173, _, rfl, ?_, ?_, fun w' hk hs => ?_⟩, ?_, ?_⟩
  . exact enters_of Tryz.func173 (by kernel_rfl) (by kernel_rfl) _
  . intro b hb'; simp at hb'; omega
  . exact flushOp1_runs w' B _ _ m (b0.kept (hk _ (by simp))) (b1.kept (hk _ (by simp)))
  . simp
  intro b hb'; simp at hb'; omega
 have HB := hidden hb
 clear hb b0 b1 hsz
 go_enter Tryz.func164, Tryz.ntmps164
 go_wp2
 go_ret
 exact ⟨_, rfl, HO.out, HB.out⟩

theorem flushes1_any (w : World) (B p m : Nat) (hp : Box w p 53 #[.pointer (some ⟨B, 0, none⟩)]) : Calls Tryz.prog 163 #[.int .i64 (m : Int), .pointer (some ⟨p, 0, none⟩)] w fun e w' => ∃ v, e = .returned v /\ (opTy B).Own w' w.heap.size w'.heap.size [v] (flushK m) /\ Below w.heap.size w w' := by
 have c0 : w.cell? ⟨p, 0, none⟩ = some (.pointer (some ⟨B, 0, none⟩)) := hp.cell 0
 go_enter Tryz.func163, Tryz.ntmps163
 go_wp2_with fail
 refine (flushOp_any _ B m).mono ?_
 rintro e w1 ⟨v, rfl, ov, b1⟩
 have OV := hidden ov
 have B1 := hidden b1
 clear ov b1
 go_wp2
 go_ret
 exact ⟨_, rfl, OV.out, B1.out⟩

theorem flushes_any (w : World) (B : Nat) (x : ArrN) (ms : List MemD) (ds : List (Int × List Int)) (fm fd : List Nat) (h : ArrAt w B x ms ds fm fd) (hl : ms.length <= 2097152) : Calls Tryz.prog 150 #[.pointer (some ⟨B, 0, none⟩)] w fun e w' => ∃ bo co, e = .returned (.slice bo (opsL flushK ms ms.length).length co) /\ (tOps B).Own w' w.heap.size w'.heap.size [.slice bo (opsL flushK ms ms.length).length co] (opsL flushK ms ms.length) /\ Below w.heap.size w w' := by
 have hmf : ∀ (fn : Fn) (first cap : Array Value) (w : World), (Instr.makeFunc fn first cap).run Tryz.prog w = .ok (.func fn first cap) w := fun _ _ _ _ => rfl
 have bA := new_below w (.cells #[.pointer (some ⟨B, 0, none⟩)] 53)
 have bx := Box.new w 53 #[.pointer (some ⟨B, 0, none⟩)]
 have HA := hidden (h.alloc (.cells #[.pointer (some ⟨B, 0, none⟩)] 53))
 have hlt := bx.lt
 clear h
 go_enter Tryz.func150, Tryz.ntmps150
 go_wp2_with fail
 refine (opsOf_any _ B x ms ds fm fd HA.out hl flushK 163 #[.pointer (some ⟨w.heap.size, 0, none⟩)] (fun m => enters_of Tryz.func163 (by kernel_rfl) (by kernel_rfl) _) (fun m w' hm hb => ?_)).mono ?_
 . exact flushes1_any w' B _ m (bx.below hb hlt)
 rintro e w1 ⟨bo, co, rfl, oo, b1⟩
 have OO := hidden (oo.widen (lo' := w.heap.size) (hi' := w1.heap.size) (by simp) (Nat.le_refl _))
 have B1 := hidden (Below.andThen bA b1)
 clear oo b1 bA bx
 go_wp2
 go_ret
 exact ⟨_, _, rfl, OO.out, B1.out⟩

theorem syncDisks_any (w : World) (B : Nat) (x : ArrN) (ms : List MemD) (ds : List (Int × List Int)) (fm fd : List Nat) (h : ArrAt w B x ms ds fm fd) (hf : x.fuse <= 1000) (hdn : x.down = false) (hM : MsOk ms) (hl : ms.length <= 2097152) : Calls Tryz.prog 118 #[.pointer (some ⟨B, 0, none⟩)] w (Did w B fm ds fd (syncS (x, ms) ms.length)) := by
 have HA := hidden h
 have HR : Hid (runS (x, ms) (opsL flushK ms ms.length) = syncS (x, ms) ms.length) := run_sync (x, ms) ms.length
 have HF : Hid (x.fuse <= 1000 /\ x.down = false) := ⟨hf, hdn⟩
 have hlB := h.lt
 have hlm := h.ltm.1
 clear h hf hdn
 go_enter Tryz.func118, Tryz.ntmps118
 go_wp2_with fail
 refine (flushes_any _ B x ms ds fm fd HA.out hl).mono ?_
 rintro e w1 ⟨bo, co, rfl, oo, b1⟩
 obtain ⟨fo, mo, ro⟩ := oo.mine
 have HP := hidden (perform_any w1 B x ms ds fm fd (HA.out.below b1) HF.out.1 HF.out.2 hM bo co (opsL flushK ms ms.length) fo mo (fun b hb => ⟨fun e => by have := (ro b hb).1; omega, fun hm => by have h1 := (ro b hb).1; have h2 := hlm b hm; omega⟩) (fun o ho => by
  obtain ⟨i, hi, hfl, rfl⟩ := opsL_mem ho
  exact ⟨hi, hfl⟩))
 have MB := hidden ((Moved.refl B fm w).below b1)
 clear oo mo ro b1 hlm
 go_wp2_with fail
 refine HP.out.mono ?_
 rintro e w2 hd
 rw [HR.out] at hd
 obtain ⟨he, fm2, hA2, hMv2⟩ := hd
 have HD : Hid (Did w B fm ds fd (syncS (x, ms) ms.length) e w2) := ⟨he, fm2, hA2, MB.out.trans hMv2⟩
 unfold EndOf at he
 clear hA2 hMv2 HR
 cases hst : (syncS (x, ms) ms.length).1.down
 . rw [if_neg (by simp [hst])] at he
   subst he
   clear hst
   go_wp2
   refine bodyPost_end (v := .tuple #[]) (results_none rfl _ _ _) rfl ?_
   exact HD.out
 rw [if_pos hst] at he
 subst he
 clear hst
 go_wp2
 exact ⟨rfl, HD.out⟩

theorem superFor_any (w : World) (x : ArrN) (am ad : Option Addr) (nm cm nd cd : Nat) (m : Int) : Calls Tryz.prog 162 #[.agg #[.int .i64 x.id, .int .i64 x.n, .int .i64 x.s, .slice am nm cm, .int .i64 x.lost, .int .i64 x.built, .int .i64 x.seq, .int .i64 x.tail, .int .i64 x.gen, .slice ad nd cd, .int .i64 x.fuse, .bool x.down, .bool x.broken], .int .i64 m] w fun e w' => e = .returned (.agg #[.int .i64 x.id, .int .i64 x.gen, .int .i64 m, .int .i64 x.n, .int .i64 x.s, .int .i64 x.tail, .int .i64 x.lost, .int .i64 x.built]) /\ Below w.heap.size w w' := by
 have X : Box ((w.alloc (.cells #[.int .i64 x.id, .int .i64 x.n, .int .i64 x.s, .slice am nm cm, .int .i64 x.lost, .int .i64 x.built, .int .i64 x.seq, .int .i64 x.tail, .int .i64 x.gen, .slice ad nd cd, .int .i64 x.fuse, .bool x.down, .bool x.broken] 33)).alloc (.cells #[.int .i64 0, .int .i64 0, .int .i64 0, .int .i64 0, .int .i64 0, .int .i64 0, .int .i64 0, .int .i64 0] 114)) w.heap.size 33 #[.int .i64 x.id, .int .i64 x.n, .int .i64 x.s, .slice am nm cm, .int .i64 x.lost, .int .i64 x.built, .int .i64 x.seq, .int .i64 x.tail, .int .i64 x.gen, .slice ad nd cd, .int .i64 x.fuse, .bool x.down, .bool x.broken] := (Box.new w _ _).alloc _
 obtain ⟨k0, k1, k2, k3, k4, k5, k6, k7, k8, k9, k10, k11, k12⟩ := X.cells13
 clear X
 go_enter Tryz.func162, Tryz.ntmps162
 go_wp2
 refine bodyPost_ret (v := .agg #[.int .i64 x.id, .int .i64 x.gen, .int .i64 m, .int .i64 x.n, .int .i64 x.s, .int .i64 x.tail, .int .i64 x.lost, .int .i64 x.built]) (by simp [results, Tryz.results162, go_sem]) rfl ?_
 exact ⟨rfl, (new_below w _).alloc (by simp) _⟩

theorem superOp1_runs (w : World) (B p q m : Nat) (hp : Box w p 53 #[.pointer (some ⟨B, 0, none⟩)]) (hq : Box w q 3 #[.int .i64 (m : Int)]) : OpRuns B [p, q] 160 #[.pointer (some ⟨p, 0, none⟩), .pointer (some ⟨q, 0, none⟩)] (supK m) w := by
 intro x ms ds fm fd hA hM hdis hlt
 dsimp only [supK] at hlt
 obtain ⟨bm, bd, cm, cd, X, hmm, hdd, hr, r1, r2⟩ := hA
 have hm63 := (row_length hmm.rd).2
 obtain ⟨g, rfl⟩ := row_head hmm (by omega)
 have hdj : ms[m]? = some (ms[m]'(by omega)) := List.getElem?_eq_getElem (by omega)
 generalize ms[m]'(by omega) = d at hdj
 have hgm : ms.getD m memZ = d := getD_at hdj
 obtain ⟨hgl, a0, a1, a3, c0, c1, c3, ss, cs, f, bs, rfl, q0, q1, q2, q3, p0, p1, p3⟩ := disk_at hmm hdj
 have X0 := X
 unfold arrC at X0
 obtain ⟨k0, k1, k2, k3, k4, k5, k6, k7, k8, k9, k10, k11, k12⟩ := X0.cells13
 have zp := hp.lt
 have cp := hp.cell 0
 have zq := hq.lt
 have cq := hq.cell 0
 have hwt := memB_light (hM m _ hdj) f
 dsimp only at hwt
 have zB := X.lt
 have XH := hidden X
 have MH := hidden hmm
 have DH := hidden hdd
 have R0 := hidden p0
 have R1 := hidden p1
 have R3 := hidden p3
 have HG := hidden hgm
 have hS : w.drew.cell? ⟨p, 0, none⟩ = some (.pointer (some ⟨B, 0, none⟩)) /\ w.drew.cell? ⟨q, 0, none⟩ = some (.int .i64 (m : Int)) /\ w.drew.cell? ⟨B, 0, none⟩ = some (.int .i64 x.id) /\ w.drew.cell? ⟨B, 1, none⟩ = some (.int .i64 x.n) /\ w.drew.cell? ⟨B, 2, none⟩ = some (.int .i64 x.s) /\ w.drew.cell? ⟨B, 3, none⟩ = some (.slice (some ⟨g, 0, none⟩) ms.length cm) /\ w.drew.cell? ⟨B, 4, none⟩ = some (.int .i64 x.lost) /\ w.drew.cell? ⟨B, 5, none⟩ = some (.int .i64 x.built) /\ w.drew.cell? ⟨B, 6, none⟩ = some (.int .i64 x.seq) /\ w.drew.cell? ⟨B, 7, none⟩ = some (.int .i64 x.tail) /\ w.drew.cell? ⟨B, 8, none⟩ = some (.int .i64 x.gen) /\ w.drew.cell? ⟨B, 9, none⟩ = some (.slice bd ds.length cd) /\ w.drew.cell? ⟨B, 10, none⟩ = some (.int .i64 x.fuse) /\ w.drew.cell? ⟨B, 11, none⟩ = some (.bool x.down) /\ w.drew.cell? ⟨B, 12, none⟩ = some (.bool x.broken) /\ w.drew.cell? ⟨g, m * 4, none⟩ = some (.slice a0 ss.length c0) /\ w.drew.cell? ⟨g, m * 4 + 1, none⟩ = some (.slice a1 cs.length c1) /\ w.drew.cell? ⟨g, m * 4 + 2, none⟩ = some (.bool f) /\ w.drew.cell? ⟨g, m * 4 + 3, none⟩ = some (.slice a3 bs.length c3) := ⟨cp, cq, k0, k1, k2, k3, k4, k5, k6, k7, k8, k9, k10, k11, k12, q0, q1, q2, q3⟩
 have i1 : (0 : Int) <= (m : Int) := by omega
 have i3 : (m : Int) < (ms.length : Int) := by omega
 clear X X0 hmm hdd p0 p1 p3 hM hdj hgm hdis
 go_enter Tryz.func160, Tryz.ntmps160
 go_wp2_with fail
 refine Upto.start (S := fun w' => w'.cell? ⟨p, 0, none⟩ = some (.pointer (some ⟨B, 0, none⟩)) /\ w'.cell? ⟨q, 0, none⟩ = some (.int .i64 (m : Int)) /\ w'.cell? ⟨B, 0, none⟩ = some (.int .i64 x.id) /\ w'.cell? ⟨B, 1, none⟩ = some (.int .i64 x.n) /\ w'.cell? ⟨B, 2, none⟩ = some (.int .i64 x.s) /\ w'.cell? ⟨B, 3, none⟩ = some (.slice (some ⟨g, 0, none⟩) ms.length cm) /\ w'.cell? ⟨B, 4, none⟩ = some (.int .i64 x.lost) /\ w'.cell? ⟨B, 5, none⟩ = some (.int .i64 x.built) /\ w'.cell? ⟨B, 6, none⟩ = some (.int .i64 x.seq) /\ w'.cell? ⟨B, 7, none⟩ = some (.int .i64 x.tail) /\ w'.cell? ⟨B, 8, none⟩ = some (.int .i64 x.gen) /\ w'.cell? ⟨B, 9, none⟩ = some (.slice bd ds.length cd) /\ w'.cell? ⟨B, 10, none⟩ = some (.int .i64 x.fuse) /\ w'.cell? ⟨B, 11, none⟩ = some (.bool x.down) /\ w'.cell? ⟨B, 12, none⟩ = some (.bool x.broken) /\ w'.cell? ⟨g, m * 4, none⟩ = some (.slice a0 ss.length c0) /\ w'.cell? ⟨g, m * 4 + 1, none⟩ = some (.slice a1 cs.length c1) /\ w'.cell? ⟨g, m * 4 + 2, none⟩ = some (.bool f) /\ w'.cell? ⟨g, m * 4 + 3, none⟩ = some (.slice a3 bs.length c3)) (k := 19) (by kernel_rfl) ?_
 refine Upto.t 0 hS ?_
 refine Upto.t 1 hS ?_
 refine Upto.t 2 hS ?_
 refine Upto.t 3 hS ?_
 refine Upto.t 4 hS ?_
 refine Upto.t 5 hS ?_
 refine Upto.t 6 hS ?_
 refine Upto.t 7 hS ?_
 refine Upto.t 8 hS ?_
 refine Upto.t 9 hS ?_
 refine Upto.t 10 hS ?_
 refine Upto.t 11 hS ?_
 refine Upto.t 12 hS ?_
 refine Upto.t 13 hS ?_
 refine Upto.t 14 hS ?_
 refine Upto.t 15 hS ?_
 refine Upto.one (i := 16) (by kernel_rfl) rfl (fun K hK => ?_)
 go_simp
 refine (superFor_any _ x _ _ _ _ _ _ (m : Int)).mono ?_
 rintro e w1 ⟨rfl, b1'⟩
 have b1 : Below w.heap.size w w1 := (Below.refl w.heap.size w).drew.trans b1'
 have hS1 : w1.cell? ⟨p, 0, none⟩ = some (.pointer (some ⟨B, 0, none⟩)) /\ w1.cell? ⟨q, 0, none⟩ = some (.int .i64 (m : Int)) /\ w1.cell? ⟨B, 0, none⟩ = some (.int .i64 x.id) /\ w1.cell? ⟨B, 1, none⟩ = some (.int .i64 x.n) /\ w1.cell? ⟨B, 2, none⟩ = some (.int .i64 x.s) /\ w1.cell? ⟨B, 3, none⟩ = some (.slice (some ⟨g, 0, none⟩) ms.length cm) /\ w1.cell? ⟨B, 4, none⟩ = some (.int .i64 x.lost) /\ w1.cell? ⟨B, 5, none⟩ = some (.int .i64 x.built) /\ w1.cell? ⟨B, 6, none⟩ = some (.int .i64 x.seq) /\ w1.cell? ⟨B, 7, none⟩ = some (.int .i64 x.tail) /\ w1.cell? ⟨B, 8, none⟩ = some (.int .i64 x.gen) /\ w1.cell? ⟨B, 9, none⟩ = some (.slice bd ds.length cd) /\ w1.cell? ⟨B, 10, none⟩ = some (.int .i64 x.fuse) /\ w1.cell? ⟨B, 11, none⟩ = some (.bool x.down) /\ w1.cell? ⟨B, 12, none⟩ = some (.bool x.broken) /\ w1.cell? ⟨g, m * 4, none⟩ = some (.slice a0 ss.length c0) /\ w1.cell? ⟨g, m * 4 + 1, none⟩ = some (.slice a1 cs.length c1) /\ w1.cell? ⟨g, m * 4 + 2, none⟩ = some (.bool f) /\ w1.cell? ⟨g, m * 4 + 3, none⟩ = some (.slice a3 bs.length c3) := ⟨(b1.cell (p := ⟨p, 0, none⟩) zp).trans cp, (b1.cell (p := ⟨q, 0, none⟩) zq).trans cq, (b1.cell (p := ⟨B, 0, none⟩) zB).trans k0, (b1.cell (p := ⟨B, 1, none⟩) zB).trans k1, (b1.cell (p := ⟨B, 2, none⟩) zB).trans k2, (b1.cell (p := ⟨B, 3, none⟩) zB).trans k3, (b1.cell (p := ⟨B, 4, none⟩) zB).trans k4, (b1.cell (p := ⟨B, 5, none⟩) zB).trans k5, (b1.cell (p := ⟨B, 6, none⟩) zB).trans k6, (b1.cell (p := ⟨B, 7, none⟩) zB).trans k7, (b1.cell (p := ⟨B, 8, none⟩) zB).trans k8, (b1.cell (p := ⟨B, 9, none⟩) zB).trans k9, (b1.cell (p := ⟨B, 10, none⟩) zB).trans k10, (b1.cell (p := ⟨B, 11, none⟩) zB).trans k11, (b1.cell (p := ⟨B, 12, none⟩) zB).trans k12, (b1.cell (p := ⟨g, m * 4, none⟩) hgl).trans q0, (b1.cell (p := ⟨g, m * 4 + 1, none⟩) hgl).trans q1, (b1.cell (p := ⟨g, m * 4 + 2, none⟩) hgl).trans q2, (b1.cell (p := ⟨g, m * 4 + 3, none⟩) hgl).trans q3⟩
 have zb1 := b1.size
 have B1 := hidden b1
 clear b1 b1'
 go_wp2_with fail
 refine hK.out _ _ (fun _ => hS1) ?_
 clear hK K
 refine Upto.one (i := 17) (by kernel_rfl) rfl (fun K hK => ?_)
 go_simp
 refine (implWriteSuper_any _ 109 _ _ _ _ _ _ _ _ _ ss cs f bs (supA x m) (R0.out.below B1.out) (R1.out.below B1.out) (R3.out.below B1.out) (by omega)).mono ?_
 rintro e w2 ⟨u0, u1, u3, rfl, o2, b2'⟩
 have b2 : Below w.heap.size w w2 := Below.andThen B1.out b2'
 have o2b : (tMem 109).Own w2 w.heap.size w2.heap.size [u0, u1, .bool f, u3] _ := o2.widen zb1 (Nat.le_refl _)
 obtain ⟨d0, l0, f0, d1, l1, f1, d3, l3, f3, hv0, hv1, hv3⟩ := mem_slices o2b
 subst hv0 hv1 hv3
 obtain ⟨fpx, mx, rx⟩ := o2b.mine
 obtain ⟨cOld, fz, hgm, fm9, hA9, hMv9⟩ := arr_store (m := m) XH.out MH.out DH.out hr r1 r2 b2 (by omega) mx (fun b hb => (rx b hb).1)
 obtain ⟨o0, t0⟩ := cOld 0 (by omega)
 obtain ⟨o1, t1⟩ := cOld 1 (by omega)
 obtain ⟨o2', t2⟩ := cOld 2 (by omega)
 obtain ⟨o3, t3⟩ := cOld 3 (by omega)
 rw [Nat.add_zero] at t0
 have HA := hidden hA9
 have HMV := hidden hMv9
 have hS2 : w2.cell? ⟨p, 0, none⟩ = some (.pointer (some ⟨B, 0, none⟩)) /\ w2.cell? ⟨q, 0, none⟩ = some (.int .i64 (m : Int)) /\ w2.cell? ⟨B, 0, none⟩ = some (.int .i64 x.id) /\ w2.cell? ⟨B, 1, none⟩ = some (.int .i64 x.n) /\ w2.cell? ⟨B, 2, none⟩ = some (.int .i64 x.s) /\ w2.cell? ⟨B, 3, none⟩ = some (.slice (some ⟨g, 0, none⟩) ms.length cm) /\ w2.cell? ⟨B, 4, none⟩ = some (.int .i64 x.lost) /\ w2.cell? ⟨B, 5, none⟩ = some (.int .i64 x.built) /\ w2.cell? ⟨B, 6, none⟩ = some (.int .i64 x.seq) /\ w2.cell? ⟨B, 7, none⟩ = some (.int .i64 x.tail) /\ w2.cell? ⟨B, 8, none⟩ = some (.int .i64 x.gen) /\ w2.cell? ⟨B, 9, none⟩ = some (.slice bd ds.length cd) /\ w2.cell? ⟨B, 10, none⟩ = some (.int .i64 x.fuse) /\ w2.cell? ⟨B, 11, none⟩ = some (.bool x.down) /\ w2.cell? ⟨B, 12, none⟩ = some (.bool x.broken) /\ w2.cell? ⟨g, m * 4, none⟩ = some (.slice a0 ss.length c0) /\ w2.cell? ⟨g, m * 4 + 1, none⟩ = some (.slice a1 cs.length c1) /\ w2.cell? ⟨g, m * 4 + 2, none⟩ = some (.bool f) /\ w2.cell? ⟨g, m * 4 + 3, none⟩ = some (.slice a3 bs.length c3) := ⟨(b2.cell (p := ⟨p, 0, none⟩) zp).trans cp, (b2.cell (p := ⟨q, 0, none⟩) zq).trans cq, (b2.cell (p := ⟨B, 0, none⟩) zB).trans k0, (b2.cell (p := ⟨B, 1, none⟩) zB).trans k1, (b2.cell (p := ⟨B, 2, none⟩) zB).trans k2, (b2.cell (p := ⟨B, 3, none⟩) zB).trans k3, (b2.cell (p := ⟨B, 4, none⟩) zB).trans k4, (b2.cell (p := ⟨B, 5, none⟩) zB).trans k5, (b2.cell (p := ⟨B, 6, none⟩) zB).trans k6, (b2.cell (p := ⟨B, 7, none⟩) zB).trans k7, (b2.cell (p := ⟨B, 8, none⟩) zB).trans k8, (b2.cell (p := ⟨B, 9, none⟩) zB).trans k9, (b2.cell (p := ⟨B, 10, none⟩) zB).trans k10, (b2.cell (p := ⟨B, 11, none⟩) zB).trans k11, (b2.cell (p := ⟨B, 12, none⟩) zB).trans k12, (b2.cell (p := ⟨g, m * 4, none⟩) hgl).trans q0, (b2.cell (p := ⟨g, m * 4 + 1, none⟩) hgl).trans q1, (b2.cell (p := ⟨g, m * 4 + 2, none⟩) hgl).trans q2, (b2.cell (p := ⟨g, m * 4 + 3, none⟩) hgl).trans q3⟩
 have gB : ¬ g = B := fun e => r1 (e ▸ hgm)
 unfold put4 at HA HMV
 clear cp cq k0 k1 k2 k3 k4 k5 k6 k7 k8 k9 k10 k11 k12 q0 q1 q2 q3 o2 o2b b2 b2' mx rx cOld hA9 hMv9 XH MH DH R0 R1 R3 hwt hS1 B1
 go_wp2_with fail
 refine hK.out _ _ (fun _ => hS2) ?_
 clear hK K
 refine Upto.t 18 hS2 ?_
 refine Upto.one (i := 19) (by kernel_rfl) rfl (fun K hK => ?_)
 go_simp
 refine hK.out _ _ (fun h => absurd rfl h) ?_
 clear hK K
 refine Upto.done (by kernel_rfl) ?_ _
 clear hS hS2 t0 t1 t2 t3 fz
 go_wp2
 refine bodyPost_end (v := .tuple #[]) (results_none rfl _ _ _) rfl ?_
 refine ⟨rfl, fm9, ?_, HMV.out⟩
 show ArrAt _ B x (ms.set m (opF (supK m) x (ms.getD m memZ))) ds fm9 fd
 rw [HG.out]
 exact HA.out

theorem superOp_any (w : World) (B m : Nat) : Calls Tryz.prog 149 #[.pointer (some ⟨B, 0, none⟩), .int .i64 (m : Int)] w fun e w' => ∃ v, e = .returned v /\ (opTy B).Own w' w.heap.size w'.heap.size [v] (supK m) /\ Below w.heap.size w w' := by
 have hmf : ∀ (fn : Fn) (first cap : Array Value) (w : World), (Instr.makeFunc fn first cap).run Tryz.prog w = .ok (.func fn first cap) w := fun _ _ _ _ => rfl
 have hb : Below w.heap.size w ((w.alloc (.cells #[.pointer (some ⟨B, 0, none⟩)] 53)).alloc (.cells #[.int .i64 (m : Int)] 3)) := ((Below.refl _ _).alloc (Nat.le_refl _) _).alloc (by simp) _
 have b0 : Box ((w.alloc (.cells #[.pointer (some ⟨B, 0, none⟩)] 53)).alloc (.cells #[.int .i64 (m : Int)] 3)) w.heap.size 53 #[.pointer (some ⟨B, 0, none⟩)] := (Box.new w _ _).alloc _
 have b1 := Box.new (w.alloc (.cells #[.pointer (some ⟨B, 0, none⟩)] 53)) 3 #[.int .i64 (m : Int)]
 rw [World.size_alloc] at b1
 have hsz : ((w.alloc (.cells #[.pointer (some ⟨B, 0, none⟩)] 53)).alloc (.cells #[.int .i64 (m : Int)] 3)).heap.size = w.heap.size + 1 + 1 := by simp
 have HO : Hid ((opTy B).Own ((w.alloc (.cells #[.pointer (some ⟨B, 0, none⟩)] 53)).alloc (.cells #[.int .i64 (m : Int)] 3)) w.heap.size ((w.alloc (.cells #[.pointer (some ⟨B, 0, none⟩)] 53)).alloc (.cells #[.int .i64 (m : Int)] 3)).heap.size [.func (Fn.func 160) #[] #[.pointer (some ⟨w.heap.size, 0, none⟩), .pointer (some ⟨w.heap.size + 1, 0, none⟩)]] (supK m)) := by
  refine ⟨[w.heap.size, w.heap.size + 1], ⟨160, _, rfl, ?_, ?_, fun w' hk hs => ?_⟩, ?_, ?_⟩
  . exact enters_of Tryz.func160 (by kernel_rfl) (by kernel_rfl) _
  . intro b hb'; simp at hb'; omega
  . exact superOp1_runs w' B _ _ m (b0.kept (hk _ (by simp))) (b1.kept (hk _ (by simp)))
  . simp
  intro b hb'; simp at hb'; omega
 have HB := hidden hb
 clear hb b0 b1 hsz
 go_enter Tryz.func149, Tryz.ntmps149
 go_wp2
 go_ret
 exact ⟨_, rfl, HO.out, HB.out⟩

end Go.Proofs.YtechckninoilhaaGreat
