/-
 What a list of disk operations makes of an array, where the power may go within it: plain lemmas. No condition.
-/
import Derived.Test.YtechckninoilhaaGreatRowBuildAllAll10
import Derived.Test.YtechckninoilhaaGreatWalkMarkIn
import Derived.Test.YtechckninoilhaaGreatWalkArrOk3
import Derived.Test.YtechckninoilhaaGreatHeld
import Derived.Test.YtechckninoilhaaGreatRowBuildAllAll11
import Derived.Test.YtechckninoilhaaGreatRowBuildAllAll13
import Derived.Test.YtechckninoilhaaGreatRowBuildAllAll12
import Derived.Test.YtechckninoilhaaGreatCode8
import Derived.Test.YtechckninoilhaaGreatOut8
import Derived.Test.YtechckninoilhaaGreatArr7

set_option maxRecDepth 100000
set_option maxHeartbeats 8000000
set_option linter.unusedSimpArgs false

namespace Go.Proofs.YtechckninoilhaaGreat
open Go.RowKit

def ArrOut (w w' : World) (e : Ending) (q : ArrN × List MemD) (ds : List (Int × List Int)) : Prop :=
 ∃ (bm bd : Option Addr) (cm cd : Nat), e = .returned (.agg (arrC q.1 (.slice bm q.2.length cm) (.slice bd ds.length cd))) /\ ArrIn w' w.heap.size w'.heap.size bm bd q.2.length cm ds.length cd q.2 ds /\ Below w.heap.size w w'
theorem Moved.belowN {B N : Nat} {f1 f2 : List Nat} {w1 w2 : World} (h : Moved B f1 w1 f2 w2) (hB : N <= B) (hf : ∀ b ∈ f1, N <= b) (hN : N <= w1.heap.size) : Below N w1 w2 :=
 ⟨h.1.os, h.1.tape, h.1.output, h.1.size, fun k hk => h.1.block k (by omega) (fun hm => by
  rcases List.mem_cons.1 hm with e | hm
  . omega
  have := hf k hm; omega)⟩
theorem arr_facts {x : ArrN} {ms : List MemD} {ds : List (Int × List Int)} (h : arrB x ms ds = true) : x.fuse <= 1000 /\ MsOk ms /\ 0 <= x.gen /\ x.gen <= 60000 := by
 unfold arrB memsB seqB6 at h
 simp only [Bool.and_eq_true, inB_iff] at h
 obtain ⟨_, _, ⟨hm, _⟩, _, _, _, _, _, hg, hf⟩ := h
 refine ⟨hf.2, fun i d hd => ?_, hg.1, hg.2⟩
 have := allIx_iff.1 hm i d hd
 unfold memAt at this
 simp only [Bool.and_eq_true] at this
 exact this.1
theorem arr_out {w w4 : World} {R lo : Nat} {y : ArrN} {ns : List MemD} {ds : List (Int × List Int)} {vm vd : Option Addr} {cvm cvd : Nat} {fm fd : List Nat} {e : Ending} {T : TypeId} {cs : Array Value} (hb : Below w.heap.size w w4) (_ : Box w4 R T cs) (he : e = .returned (.agg (arrC y (.slice vm ns.length cvm) (.slice vd ds.length cvd)))) (hm : (tMemS 109 51).Mine w4 [.slice vm ns.length cvm] ns fm) (hd : (tWrS 82).Mine w4 [.slice vd ds.length cvd] ds fd) (hr : ∀ b ∈ fm, b ∉ fd) (rm : ∀ b ∈ fm, lo <= b) (rd : ∀ b ∈ fd, lo <= b) (h1 : w.heap.size <= R) (h2 : R < lo) :
 ArrOut w (puts w4 R [(0, .int .i64 y.id), (1, .int .i64 y.n), (2, .int .i64 y.s), (3, .slice vm ns.length cvm), (4, .int .i64 y.lost), (5, .int .i64 y.built), (6, .int .i64 y.seq), (7, .int .i64 y.tail), (8, .int .i64 y.gen), (9, .slice vd ds.length cvd), (10, .int .i64 y.fuse), (11, .bool y.down), (12, .bool y.broken)]) e (y, ns) ds := by
 have hbt := puts_but R [(0, .int .i64 y.id), (1, .int .i64 y.n), (2, .int .i64 y.s), (3, .slice vm ns.length cvm), (4, .int .i64 y.lost), (5, .int .i64 y.built), (6, .int .i64 y.seq), (7, .int .i64 y.tail), (8, .int .i64 y.gen), (9, .slice vd ds.length cvd), (10, .int .i64 y.fuse), (11, .bool y.down), (12, .bool y.broken)] w4
 have hz := hbt.size
 have hlm := hm.lt
 have hld := hd.lt
 refine ⟨vm, vd, cvm, cvd, he, ⟨fm, fd, hm.but hbt (fun b hb => by have := rm b hb; omega), hd.but hbt (fun b hb => by have := rd b hb; omega), hr, fun b hb => ?_, fun b hb => ?_⟩, Below.andBut hb hbt h1⟩
 . have h3 := rm b hb
   have h4 := hlm b hb
   omega
 have h3 := rd b hb
 have h4 := hld b hb
 omega

theorem arr_split {x : ArrN} {ms : List MemD} {ds : List (Int × List Int)} : arrB x ms ds = true ↔ geoB x.n x.s = true /\ inB x.id 1 60000 = true /\ memsB x ms = true /\ entsB x ds = true /\ lostB6 x = true /\ seqB6 x = true := by
 unfold arrB
 simp only [Bool.and_eq_true]
theorem mems_iff {x : ArrN} {ms : List MemD} : memsB x ms = true ↔ (∀ (i : Nat) (d : MemD), ms[i]? = some d -> memB d.1 d.2.1 d.2.2.2 = true /\ (d.1.length : Int) = 6 + x.s /\ (d.2.2.1 = true -> (i : Int) = x.lost ∨ x.broken = true)) /\ (ms.length : Int) = x.n := by
 unfold memsB
 rw [Bool.and_eq_true, allIx_iff, decide_eq_true_eq]
 refine and_congr_left fun _ => ?_
 constructor
 . intro h i d hd
   have := h i d hd
   unfold memAt at this
   simp only [Bool.and_eq_true, decide_eq_true_eq, Bool.or_eq_true, Bool.not_eq_true'] at this
   refine ⟨this.1, this.2.1, fun hf => ?_⟩
   rcases this.2.2 with h | h | h
   . rw [hf] at h; cases h
   . exact .inl h
   exact .inr h
 intro h i d hd
 obtain ⟨h1, h2, h3⟩ := h i d hd
 unfold memAt
 simp only [Bool.and_eq_true, decide_eq_true_eq, Bool.or_eq_true, Bool.not_eq_true']
 refine ⟨h1, h2, ?_⟩
 cases hf : d.2.2.1
 . exact .inl rfl
 exact .inr (h3 hf)
theorem mems_set {x x' : ArrN} {ms : List MemD} {m : Nat} {d : MemD} (h : memsB x ms = true) (hn : x'.n = x.n) (hs : x'.s = x.s) (hd : memB d.1 d.2.1 d.2.2.2 = true) (hl : (d.1.length : Int) = 6 + x.s) (hf : d.2.2.1 = true -> (m : Int) = x'.lost ∨ x'.broken = true)
 (ho : ∀ (i : Nat) (e : MemD), i ≠ m -> ms[i]? = some e -> e.2.2.1 = true -> (i : Int) = x'.lost ∨ x'.broken = true) : memsB x' (ms.set m d) = true := by
 rw [mems_iff] at h ⊢
 refine ⟨fun i e he => ?_, by rw [List.length_set, hn]; exact h.2⟩
 by_cases him : m = i
 . subst him
   have hi : m < ms.length := by have := (List.getElem?_eq_some_iff.1 he).1; simpa using this
   rw [List.getElem?_set_self hi] at he
   cases he
   exact ⟨hd, by rw [hs]; exact hl, hf⟩
 rw [List.getElem?_set_ne him] at he
 obtain ⟨a1, a2, a3⟩ := h.1 i e he
 exact ⟨a1, by rw [hs]; exact a2, ho i e (fun e => him e.symm) he⟩

theorem l7Op_any (w : World) (B : Nat) (x : ArrN) (ms : List MemD) (ds : List (Int × List Int)) (fm fd : List Nat) (h : ArrAt w B x ms ds fm fd) (hf : x.fuse <= 1000) :
 Calls Tryz.prog 128 #[.pointer (some ⟨B, 0, none⟩)] w fun e w' => e = .returned (.bool (opB x)) /\ ArrAt w' B (opX x) ms ds fm fd /\ Moved B fm w fm w' := by
 obtain ⟨bm, bd, cm, cd, X, hm, hd, hr, r1, r2⟩ := h
 unfold arrC at X
 obtain ⟨k0, k1, k2, k3, k4, k5, k6, k7, k8, k9, k10, k11, k12⟩ := X.cells13
 have fz := X.frozen
 cases hdn : x.down
 . rw [hdn] at k11
   by_cases h0 : x.fuse = 0
   . have HB : Hid (opB x = false) := by unfold Hid opB; simp [h0]
     have HX : Hid (opX x = {x with down := true, fuse := -1}) := by unfold Hid opX; rw [if_neg (by simp [hdn]), if_pos h0]
     have Y := (X.set 11 (.bool true)).set 10 (.int .i64 (-1))
     have M := hidden ((hm.setCell (g := B) (j := 11) r1 (.bool true)).setCell (g := B) (j := 10) r1 (.int .i64 (-1)))
     have D := hidden ((hd.setCell (g := B) (j := 11) r2 (.bool true)).setCell (g := B) (j := 10) r2 (.int .i64 (-1)))
     have MV := hidden ((Moved.set (B := B) (j := 11) (fm := fm) (w := w) (.bool true)).trans (Moved.set (B := B) (j := 10) (.int .i64 (-1))))
     have YH := hidden Y
     rw [h0] at k10
     clear Y X hm hd hdn h0
     go_enter Tryz.func128, Tryz.ntmps128
     go_wp2
     go_ret
     exact ⟨ret_bool HB.out.symm, by rw [HX.out]; exact ⟨bm, bd, cm, cd, YH.out, M.out, D.out, hr, r1, r2⟩, MV.out⟩
   have e0 : (x.fuse == 0) = false := by simpa using h0
   have HB : Hid (opB x = true) := by unfold Hid opB; simp [h0, hdn]
   by_cases h1 : 0 < x.fuse
   . have hw : IntKind.i64.wrap (x.fuse - 1) = x.fuse - 1 := IntWalk.i64_in _ (by omega)
     have HX : Hid (opX x = {x with fuse := x.fuse - 1}) := by unfold Hid opX; rw [if_neg (by simp [hdn]), if_neg h0, if_pos h1]
     have YH := hidden (X.set 10 (.int .i64 (x.fuse - 1)))
     have M := hidden (hm.setCell (g := B) (j := 10) r1 (.int .i64 (x.fuse - 1)))
     have D := hidden (hd.setCell (g := B) (j := 10) r2 (.int .i64 (x.fuse - 1)))
     have MV := hidden (Moved.set (B := B) (j := 10) (fm := fm) (w := w) (.int .i64 (x.fuse - 1)))
     clear X hm hd hdn h0
     go_enter Tryz.func128, Tryz.ntmps128
     go_wp2
     go_ret
     exact ⟨ret_bool HB.out.symm, by rw [HX.out]; exact ⟨bm, bd, cm, cd, YH.out, M.out, D.out, hr, r1, r2⟩, MV.out⟩
   have HX : Hid (opX x = x) := by unfold Hid opX; rw [if_neg (by simp [hdn]), if_neg h0, if_neg h1]
   have YH := hidden X
   clear hdn h0 X
   go_enter Tryz.func128, Tryz.ntmps128
   go_wp2
   go_ret
   exact ⟨ret_bool HB.out.symm, by rw [HX.out]; exact ⟨bm, bd, cm, cd, YH.out, hm, hd, hr, r1, r2⟩, Moved.refl _ _ _⟩
 have HB : Hid (opB x = false) := by unfold Hid opB; simp [hdn]
 have HX : Hid (opX x = x) := by unfold Hid opX; rw [if_pos hdn]
 rw [hdn] at k11
 have YH := hidden X
 clear hdn X
 go_enter Tryz.func128, Tryz.ntmps128
 go_wp2
 go_ret
 exact ⟨ret_bool HB.out.symm, by rw [HX.out]; exact ⟨bm, bd, cm, cd, YH.out, hm, hd, hr, r1, r2⟩, Moved.refl _ _ _⟩

theorem l7Put_any (w : World) (B : Nat) (x : ArrN) (ms : List MemD) (ds : List (Int × List Int)) (fm fd : List Nat) (h : ArrAt w B x ms ds fm fd) (hf : x.fuse <= 1000) (hM : MsOk ms) (m : Nat) (hm : m < ms.length) (n : Int) (a5 : Option Addr) (n5 c5 : Nat) (sw : List Int) (f5 : List Nat) (h5 : tIntS.Mine w [.slice a5 n5 c5] sw f5) (h5B : B ∉ f5) (h5f : ∀ b ∈ f5, b ∉ fm) (hn5 : n5 <= 2097152) :
 Calls Tryz.prog 91 #[.pointer (some ⟨B, 0, none⟩), .int .i64 (m : Int), .int .i64 n, .slice a5 n5 c5] w fun e w' => e = .returned (.tuple #[]) /\ ∃ fm', ArrAt w' B (putS (x, ms) m n sw).1 (putS (x, ms) m n sw).2 ds fm' fd /\ Moved B fm w fm' w' := by
 have h00 := h
 obtain ⟨bm, bd, cm, cd, X, hmm, hdd, hr, r1, r2⟩ := h
 unfold arrC at X
 obtain ⟨g, rfl⟩ := row_head hmm (by omega)
 have hdj : ms[m]? = some (ms[m]'hm) := List.getElem?_eq_getElem hm
 generalize ms[m]'hm = d at hdj
 obtain ⟨hgl, a0, a1, a3, c0, c1, c3, ss, cs, f, bs, rfl, q0, q1, q2, q3, _, _, _⟩ := disk_at hmm hdj
 obtain ⟨k0, k1, k2, k3, k4, k5, k6, k7, k8, k9, k10, k11, k12⟩ := X.cells13
 have i1 : (0 : Int) <= (m : Int) := by omega
 have i2 : (m : Int) < (ms.length : Int) := by omega
 cases f
 . have H0 := hidden h00
   clear X hmm hdd hgl q0 q1 q3
   go_enter Tryz.func91, Tryz.ntmps91
   go_wp2_with fail
   refine (l7Op_any _ B x ms ds fm fd H0.out hf).mono ?_
   rintro e w1 ⟨rfl, hA1, hMv1⟩
   clear k0 k1 k2 k3 k4 k5 k6 k7 k8 k9 k10 k11 k12 q2 H0 h00
   cases ho : opB x
   . have HP : Hid (putS (x, ms) m n sw = (opX x, ms)) := doS_no hdj rfl ho
     go_wp2
     refine bodyPost_ret (v := .tuple #[]) (by simp [results, Tryz.results91, go_sem]) rfl ?_
     exact ⟨rfl, fm, by rw [HP.out]; exact hA1, hMv1⟩
   have HP : Hid (putS (x, ms) m n sw = (opX x, ms.set m (wrM (ss, cs, false, bs) n sw))) := doS_yes hdj rfl ho
   obtain ⟨bm, bd, cm, cd, X, hmm, hdd, hr, r1, r2⟩ := hA1
   obtain ⟨g, rfl⟩ := row_head hmm (by omega)
   obtain ⟨hgl, a0, a1, a3, c0, c1, c3, ss, cs, f, bs, hde, q0, q1, q2, q3, p0, p1, p3⟩ := disk_at hmm hdj
   simp only [Prod.mk.injEq] at hde
   obtain ⟨rfl, rfl, rfl, rfl⟩ := hde
   have X0 := X
   unfold arrC at X0
   obtain ⟨k0, k1, k2, k3, k4, k5, k6, k7, k8, k9, k10, k11, k12⟩ := X0.cells13
   have hwt := memB_light (hM m _ hdj) false
   dsimp only at hwt
   have XH := hidden X
   have MH := hidden hmm
   have DH := hidden hdd
   have MV := hidden hMv1
   have DJ := hidden hdj
   have h51 := (hMv1.mine h5 h5B h5f).rd
   clear X X0 hmm hdd hMv1 hdj
   go_wp2_with fail
   refine (specWriteSec_any _ 109 _ _ _ _ _ _ _ _ _ _ _ _ ss cs false bs n sw p0 p1 p3 h51 (by omega) hn5).mono ?_
   rintro e w2 ⟨u0, u1, u3, rfl, o2, b2⟩
   obtain ⟨d0, l0, f0, d1, l1, f1, d3, l3, f3, hv0, hv1, hv3⟩ := mem_slices o2
   subst hv0 hv1 hv3
   have b3 := new_below w2 (.cells #[.slice d0 l0 f0, .slice d1 l1 f1, .bool false, .slice d3 l3 f3] 51)
   have b13 : Below w1.heap.size w1 (w2.alloc (.cells #[.slice d0 l0 f0, .slice d1 l1 f1, .bool false, .slice d3 l3 f3] 51)) := Below.andThen b2 b3
   have Y3 := Box.new w2 51 #[.slice d0 l0 f0, .slice d1 l1 f1, .bool false, .slice d3 l3 f3]
   have zY := Y3.lt
   have z2 := b2.size
   obtain ⟨fpx, mx, rx⟩ := (o2.below b3).mine
   obtain ⟨cOld, fz, hgm, fm9, hA9, hMv9⟩ := arr_store XH.out MH.out DH.out hr r1 r2 b13 hm mx (fun b hb => (rx b hb).1)
   obtain ⟨o0, t0⟩ := cOld 0 (by omega)
   obtain ⟨o1, t1⟩ := cOld 1 (by omega)
   obtain ⟨o2', t2⟩ := cOld 2 (by omega)
   obtain ⟨o3, t3⟩ := cOld 3 (by omega)
   rw [Nat.add_zero] at t0
   have HA := hidden hA9
   have HMV := hidden (MV.out.trans hMv9)
   have X3 := XH.out.below b13 XH.out.lt
   unfold arrC at X3
   have gB : ¬ g = B := fun e => r1 (e ▸ hgm)
   have gY : ¬ g = w2.heap.size := by omega
   obtain ⟨y0, y1, y2, y3⟩ := Y3.cells4
   have x3 := X3.cells13.2.2.2.1
   have hS : (w2.alloc (.cells #[.slice d0 l0 f0, .slice d1 l1 f1, .bool false, .slice d3 l3 f3] 51)).drew.cell? ⟨B, 3, none⟩ = some (.slice (some ⟨g, 0, none⟩) ms.length cm) /\ (w2.alloc (.cells #[.slice d0 l0 f0, .slice d1 l1 f1, .bool false, .slice d3 l3 f3] 51)).drew.cell? ⟨w2.heap.size, 0, none⟩ = some (.slice d0 l0 f0) /\ (w2.alloc (.cells #[.slice d0 l0 f0, .slice d1 l1 f1, .bool false, .slice d3 l3 f3] 51)).drew.cell? ⟨w2.heap.size, 1, none⟩ = some (.slice d1 l1 f1) /\ (w2.alloc (.cells #[.slice d0 l0 f0, .slice d1 l1 f1, .bool false, .slice d3 l3 f3] 51)).drew.cell? ⟨w2.heap.size, 2, none⟩ = some (.bool false) /\ (w2.alloc (.cells #[.slice d0 l0 f0, .slice d1 l1 f1, .bool false, .slice d3 l3 f3] 51)).drew.cell? ⟨w2.heap.size, 3, none⟩ = some (.slice d3 l3 f3) := ⟨x3, y0, y1, y2, y3⟩
   unfold put4 at HA HMV
   clear k0 k1 k2 k3 k4 k5 k6 k7 k8 k9 k10 k11 k12 q0 q1 q2 q3 p0 p1 p3 h51 o2 b2 b3 b13 Y3 mx rx cOld hA9 hMv9 X3 x3 XH MH DH MV hwt
   go_wp2_with fail
   refine Upto.start (S := fun w' => w'.cell? ⟨B, 3, none⟩ = some (.slice (some ⟨g, 0, none⟩) ms.length cm) /\ w'.cell? ⟨w2.heap.size, 0, none⟩ = some (.slice d0 l0 f0) /\ w'.cell? ⟨w2.heap.size, 1, none⟩ = some (.slice d1 l1 f1) /\ w'.cell? ⟨w2.heap.size, 2, none⟩ = some (.bool false) /\ w'.cell? ⟨w2.heap.size, 3, none⟩ = some (.slice d3 l3 f3)) (k := 7) (by kernel_rfl) ?_
   refine Upto.t 0 hS ?_
   refine Upto.t 1 hS ?_
   refine Upto.t 2 hS ?_
   refine Upto.t 3 hS ?_
   refine Upto.t 4 hS ?_
   refine Upto.t 5 hS ?_
   refine Upto.t 6 hS ?_
   refine Upto.one (i := 7) (by kernel_rfl) rfl (fun K hK => ?_)
   go_simp
   refine hK.out _ _ (fun h => absurd rfl h) ?_
   clear hK K
   refine Upto.done (by kernel_rfl) ?_ _
   clear hS y0 y1 y2 y3 t0 t1 t2 t3 fz
   go_wp2
   refine bodyPost_end (v := .tuple #[]) (results_none rfl _ _ _) rfl ?_
   exact ⟨rfl, fm9, by rw [HP.out]; exact HA.out.drew, HMV.out.drew⟩
 have HP : Hid (putS (x, ms) m n sw = (x, ms)) := doS_failed hdj rfl
 clear X hmm hdd hgl q0 q1 q3
 go_enter Tryz.func91, Tryz.ntmps91
 go_wp2
 refine bodyPost_ret (v := .tuple #[]) (by simp [results, Tryz.results91, go_sem]) rfl ?_
 exact ⟨rfl, fm, by rw [HP.out]; exact h00, Moved.refl _ _ _⟩

theorem wr_mine_inv {w : World} {vs : List Value} {x : Int × List Int} {fp : List Nat} (h : tWr.Mine w vs x fp) : ∃ a cap, vs = [.int .i64 x.1, .slice a x.2.length cap] /\ tIntS.Mine w [.slice a x.2.length cap] x.2 fp := by
 have hl : vs.length = 2 := tWr.rdLen (tWr.owRd h.1)
 match vs, hl, h with
 | [u0, u1], _, h =>
  obtain ⟨f1, f2, hf, m1, m2, _⟩ := pair_mine (t := intTy) (u := tIntS) (vs := [u0]) (us := [u1]) rfl h
  obtain ⟨e1, e2⟩ := m1.1
  subst e2
  obtain ⟨a, cap, rfl⟩ := row_shape m2.rd
  refine ⟨a, cap, by simpa using e1, ?_⟩
  rw [hf]
  exact m2
theorem Turned.adrew {fp : List Nat} {w w' : World} (h : Turned fp w w') : Turned fp w w'.drew := ⟨h.os, h.tape, h.output, h.size, h.block⟩
theorem Ty.Mine.adrew {t : Ty} {w : World} {vs : List Value} {d : t.D} {fp : List Nat} (h : t.Mine w vs d fp) : t.Mine w.drew vs d fp := h.kept (Turned.adrew (Turned.refl [] w)) (by simp)
theorem cache_parts {w : World} {E : TypeId} {lo hi n cap : Nat} {b : Option Addr} {cs : List (Int × List Int)} (h : (tWrS E).Own w lo hi [.slice b n cap] cs) :
 ∃ (gC : Nat) (F : Nat -> List Nat), (n = 0 ∨ (b = some ⟨gC, 0, none⟩ /\ lo <= gC /\ gC < hi)) /\ (∀ i x, cs[i]? = some x -> ∃ a c, tIntS.Mine w [.slice a x.2.length c] x.2 (F i) /\ (∀ b ∈ F i, lo <= b /\ b < hi) /\ w.cell? ⟨gC, i * 2, none⟩ = some (.int .i64 x.1) /\ w.cell? ⟨gC, i * 2 + 1, none⟩ = some (.slice a x.2.length c)) /\ ∀ i j, i < j -> j < cs.length -> ∀ b ∈ F i, b ∉ F j := by
 have hl := (row_length h.rd).1
 rcases h.rowShape with h0 | ⟨g, rfl⟩
 . refine ⟨0, fun _ => [], .inl h0, fun i x hx => ?_, by simp⟩
   have := (List.getElem?_eq_some_iff.1 hx).1
   omega
 obtain ⟨fp, m, r⟩ := h.mine
 obtain ⟨hg, F, h1, h2⟩ := row_parts m
 refine ⟨g, F, .inr ⟨rfl, r g hg⟩, fun i x hx => ?_, h2⟩
 obtain ⟨vs, m1, _, m3, m4⟩ := h1 i x hx
 obtain ⟨a, c, rfl, m5⟩ := wr_mine_inv m1
 exact ⟨a, c, m5, fun b hb => r b (m3 b hb), m4 0 (by decide), m4 1 (by decide)⟩

theorem specFlushMem_any (w : World) (E : TypeId) (a0 a1 a3 : Option Addr) (n0 c0 n1 c1 n3 c3 : Nat) (ss : List (List Int)) (cs : List (Int × List Int)) (f : Bool) (bs : List Int) (h0 : tIntSS.Rd w [.slice a0 n0 c0] ss) (h1 : (tWrS E).Rd w [.slice a1 n1 c1] cs) (h3 : tIntS.Rd w [.slice a3 n3 c3] bs) (hw : wtMem (ss, cs, f, bs) <= 2097152) :
 Calls Tryz.prog 141 #[.agg #[.slice a0 n0 c0, .slice a1 n1 c1, .bool f, .slice a3 n3 c3]] w fun e w' => ∃ v0 v1 v3, e = .returned (.agg #[v0, v1, .bool f, v3]) /\ (tMem 109).Own w' w.heap.size w'.heap.size [v0, v1, .bool f, v3] (flSS ss cs f bs, flCS ss cs f bs, f, bs) /\ Below w.heap.size w w' := by
 obtain ⟨hl0, _, hm0⟩ := row_length h0
 obtain ⟨hl1, _, hm1⟩ := row_length h1
 obtain ⟨hl3, _, hm3⟩ := row_length h3
 have hwc : wtWrS cs <= 2097152 := by unfold wtMem at hw; simp only at hw; omega
 by_cases hM : memB ss cs bs = true
 . have hn20 : n0 <= 20 := by have := mem_secs hM; omega
   have hks := mem_writes hM
   by_cases hf : f = true
   . subst hf
     have e1 : flSS ss cs true bs = ss := by unfold flSS; simp
     have e2 : flCS ss cs true bs = cs := by unfold flCS; simp
     rw [e1, e2]
     clear e1 e2
     have hA : Below w.heap.size w ((w.alloc (.cells #[.slice a0 n0 c0, .slice a1 n1 c1, .bool true, .slice a3 n3 c3] 51)).alloc (.cells #[.slice none 0 0, .slice none 0 0, .bool false, .slice none 0 0] 51)) := ((Below.refl _ _).alloc (Nat.le_refl _) _).alloc (by simp) _
     have xm : Box ((w.alloc (.cells #[.slice a0 n0 c0, .slice a1 n1 c1, .bool true, .slice a3 n3 c3] 51)).alloc (.cells #[.slice none 0 0, .slice none 0 0, .bool false, .slice none 0 0] 51)) w.heap.size 51 #[.slice a0 n0 c0, .slice a1 n1 c1, .bool true, .slice a3 n3 c3] := (Box.new w _ _).alloc _
     have xr : Box ((w.alloc (.cells #[.slice a0 n0 c0, .slice a1 n1 c1, .bool true, .slice a3 n3 c3] 51)).alloc (.cells #[.slice none 0 0, .slice none 0 0, .bool false, .slice none 0 0] 51)) (w.heap.size + 1) 51 #[.slice none 0 0, .slice none 0 0, .bool false, .slice none 0 0] := by
      have := Box.new (w.alloc (.cells #[.slice a0 n0 c0, .slice a1 n1 c1, .bool true, .slice a3 n3 c3] 51)) 51 #[.slice none 0 0, .slice none 0 0, .bool false, .slice none 0 0]
      rw [show (w.alloc (.cells #[.slice a0 n0 c0, .slice a1 n1 c1, .bool true, .slice a3 n3 c3] 51)).heap.size = w.heap.size + 1 by simp] at this
      exact this
     go_enter Tryz.func141, Tryz.ntmps141
     go_wp2_with fail
     generalize hW : (w.alloc (.cells #[.slice a0 n0 c0, .slice a1 n1 c1, .bool true, .slice a3 n3 c3] 51)).alloc (.cells #[.slice none 0 0, .slice none 0 0, .bool false, .slice none 0 0] 51) = W at hA xm xr ⊢
     clear hW
     have zr := xr.lt
     obtain ⟨q0, q1, q2, q3⟩ := xm.cells4
     have XM := hidden xm
     have XR := hidden xr
     clear xm xr
     refine (l2Copy_any _ E _ _ _ _ _ _ _ _ _ ss cs true bs (h0.below hA) (h1.below hA) (h3.below hA) hw).mono ?_
     intro e w1 hc
     obtain ⟨b0, b1, b3, e0, e1, e3, m1, m2, rfl, o3, o0, o1, r1, r2, r3, bb⟩ := copy_shapes hl0 hl1 hl3 hc
     clear hc
     have z1 := bb.size
     have sW : w.heap.size + 2 <= W.heap.size := by omega
     have ba : Below w1.heap.size w1 (w1.alloc (.cells #[.slice b0 n0 e0, .slice b1 n1 e1, .bool true, .slice b3 n3 e3] 51)) := (Below.refl _ _).alloc (Nat.le_refl _) _
     have yo := Box.new w1 51 #[.slice b0 n0 e0, .slice b1 n1 e1, .bool true, .slice b3 n3 e3]
     have zo := yo.lt
     have YO := hidden yo
     have YR := hidden ((XR.out.below bb zr).below ba (by omega))
     have YM := hidden ((XM.out.below bb (by omega)).below ba (by omega))
     have K0 := hidden (o0.below ba)
     have K1 := hidden (o1.below ba)
     have K3 := hidden (o3.below ba)
     have KB := hidden (hA.trans ((bb.mono (by omega : w.heap.size <= W.heap.size)).trans (ba.mono (by omega))))
     clear yo o0 o1 o3 XM XR bb ba hA q0 q1 q2 q3
     obtain ⟨q0, q1, q2, q3⟩ := YM.out.cells4
     go_wp2_with fail
     generalize w1.alloc (.cells #[.slice b0 n0 e0, .slice b1 n1 e1, .bool true, .slice b3 n3 e3] 51) = w2 at YO YR YM K0 K1 K3 KB zo q0 q1 q2 q3 ⊢
     refine (specMemOk_any _ E _ _ _ _ _ _ _ _ _ ss cs true bs (h0.below KB.out) (h1.below KB.out) (h3.below KB.out) hw).mono ?_
     rintro e w3 ⟨rfl, b4⟩
     have z3 := b4.size
     have XO := hidden (YO.out.below b4 (by omega))
     have XR := hidden (YR.out.below b4 (by omega))
     have XM := hidden (YM.out.below b4 (by omega))
     have L0 := hidden (K0.out.below b4)
     have L1 := hidden (K1.out.below b4)
     have L3 := hidden (K3.out.below b4)
     have LB := hidden (KB.out.trans (b4.mono (by have := KB.out.size; omega)))
     clear YO YR YM K0 K1 K3 KB b4 q0 q1 q2 q3
     obtain ⟨q0, q1, q2, q3⟩ := XM.out.cells4
     obtain ⟨x0, x1, x2, x3⟩ := XO.out.cells4
     obtain ⟨p0, p1, p2, p3⟩ := XR.out.cells4
     have fz := XR.out.frozen
     have hbt : But (w.heap.size + 1) (w.heap.size + 2) w3 ((((w3.setCell ⟨w.heap.size + 1, 0, none⟩ (.slice b0 n0 e0)).setCell ⟨w.heap.size + 1, 1, none⟩ (.slice b1 n1 e1)).setCell ⟨w.heap.size + 1, 2, none⟩ (.bool true)).setCell ⟨w.heap.size + 1, 3, none⟩ (.slice b3 n3 e3)) :=
      (((But.setCell (by omega) (by omega) _).trans (But.setCell (by omega) (by omega) _)).trans (But.setCell (by omega) (by omega) _)).trans (But.setCell (by omega) (by omega) _)
     have z9 := hbt.size
     have FIN : Hid ((tMem 109).Own ((((w3.setCell ⟨w.heap.size + 1, 0, none⟩ (.slice b0 n0 e0)).setCell ⟨w.heap.size + 1, 1, none⟩ (.slice b1 n1 e1)).setCell ⟨w.heap.size + 1, 2, none⟩ (.bool true)).setCell ⟨w.heap.size + 1, 3, none⟩ (.slice b3 n3 e3)) w.heap.size ((((w3.setCell ⟨w.heap.size + 1, 0, none⟩ (.slice b0 n0 e0)).setCell ⟨w.heap.size + 1, 1, none⟩ (.slice b1 n1 e1)).setCell ⟨w.heap.size + 1, 2, none⟩ (.bool true)).setCell ⟨w.heap.size + 1, 3, none⟩ (.slice b3 n3 e3)).heap.size [.slice b0 n0 e0, .slice b1 n1 e1, .bool true, .slice b3 n3 e3] (ss, cs, true, bs)) := mem_own3 (L0.out.but hbt (by omega)) (L1.out.but hbt (by omega)) (L3.out.but hbt (by omega)) (by omega) (by omega) (by omega) (by omega) (by omega) (by omega)
     have FB := hidden (Below.andBut LB.out hbt (by omega))
     clear hbt
     go_wp2
     refine bodyPost_ret (v := .agg #[.slice b0 n0 e0, .slice b1 n1 e1, .bool true, .slice b3 n3 e3]) (by simp [results, Tryz.results141, go_sem, p0, p1, p2, p3]) rfl ?_
     exact ⟨_, _, _, rfl, FIN.out, FB.out⟩
   have hf : f = false := by simpa using hf
   subst hf
   have e1 : flSS ss cs false bs = flushD ss cs := by unfold flSS; simp [hM]
   have e2 : flCS ss cs false bs = [] := by unfold flCS; simp [hM]
   rw [e1, e2]
   clear e1 e2
   have hA : Below w.heap.size w ((w.alloc (.cells #[.slice a0 n0 c0, .slice a1 n1 c1, .bool false, .slice a3 n3 c3] 51)).alloc (.cells #[.slice none 0 0, .slice none 0 0, .bool false, .slice none 0 0] 51)) := ((Below.refl _ _).alloc (Nat.le_refl _) _).alloc (by simp) _
   have xm : Box ((w.alloc (.cells #[.slice a0 n0 c0, .slice a1 n1 c1, .bool false, .slice a3 n3 c3] 51)).alloc (.cells #[.slice none 0 0, .slice none 0 0, .bool false, .slice none 0 0] 51)) w.heap.size 51 #[.slice a0 n0 c0, .slice a1 n1 c1, .bool false, .slice a3 n3 c3] := (Box.new w _ _).alloc _
   have xr : Box ((w.alloc (.cells #[.slice a0 n0 c0, .slice a1 n1 c1, .bool false, .slice a3 n3 c3] 51)).alloc (.cells #[.slice none 0 0, .slice none 0 0, .bool false, .slice none 0 0] 51)) (w.heap.size + 1) 51 #[.slice none 0 0, .slice none 0 0, .bool false, .slice none 0 0] := by
    have := Box.new (w.alloc (.cells #[.slice a0 n0 c0, .slice a1 n1 c1, .bool false, .slice a3 n3 c3] 51)) 51 #[.slice none 0 0, .slice none 0 0, .bool false, .slice none 0 0]
    rw [show (w.alloc (.cells #[.slice a0 n0 c0, .slice a1 n1 c1, .bool false, .slice a3 n3 c3] 51)).heap.size = w.heap.size + 1 by simp] at this
    exact this
   go_enter Tryz.func141, Tryz.ntmps141
   go_wp2_with fail
   generalize hW : (w.alloc (.cells #[.slice a0 n0 c0, .slice a1 n1 c1, .bool false, .slice a3 n3 c3] 51)).alloc (.cells #[.slice none 0 0, .slice none 0 0, .bool false, .slice none 0 0] 51) = W at hA xm xr ⊢
   clear hW
   have zr := xr.lt
   obtain ⟨q0, q1, q2, q3⟩ := xm.cells4
   have XM := hidden xm
   have XR := hidden xr
   clear xm xr
   refine (l2Copy_any _ E _ _ _ _ _ _ _ _ _ ss cs false bs (h0.below hA) (h1.below hA) (h3.below hA) hw).mono ?_
   intro e w1 hc
   obtain ⟨b0, b1, b3, e0, e1, e3, m1, m2, rfl, o3, o0, o1, r1, r2, r3, bb⟩ := copy_shapes hl0 hl1 hl3 hc
   clear hc
   have z1 := bb.size
   have sW : w.heap.size + 2 <= W.heap.size := by omega
   have ba : Below w1.heap.size w1 (w1.alloc (.cells #[.slice b0 n0 e0, .slice b1 n1 e1, .bool false, .slice b3 n3 e3] 51)) := (Below.refl _ _).alloc (Nat.le_refl _) _
   have yo := Box.new w1 51 #[.slice b0 n0 e0, .slice b1 n1 e1, .bool false, .slice b3 n3 e3]
   have zo := yo.lt
   have YO := hidden yo
   have YR := hidden ((XR.out.below bb zr).below ba (by omega))
   have YM := hidden ((XM.out.below bb (by omega)).below ba (by omega))
   have K0 := hidden (o0.below ba)
   have K1 := hidden (o1.below ba)
   have K3 := hidden (o3.below ba)
   have KB := hidden (hA.trans ((bb.mono (by omega : w.heap.size <= W.heap.size)).trans (ba.mono (by omega))))
   clear yo o0 o1 o3 XM XR bb ba hA q0 q1 q2 q3
   obtain ⟨q0, q1, q2, q3⟩ := YM.out.cells4
   go_wp2_with fail
   generalize w1.alloc (.cells #[.slice b0 n0 e0, .slice b1 n1 e1, .bool false, .slice b3 n3 e3] 51) = w2 at YO YR YM K0 K1 K3 KB zo q0 q1 q2 q3 ⊢
   refine (specMemOk_any _ E _ _ _ _ _ _ _ _ _ ss cs false bs (h0.below KB.out) (h1.below KB.out) (h3.below KB.out) hw).mono ?_
   rintro e w3 ⟨rfl, b4⟩
   have z3 := b4.size
   have XO := hidden (YO.out.below b4 (by omega))
   have XR := hidden (YR.out.below b4 (by omega))
   have XM := hidden (YM.out.below b4 (by omega))
   have L0 := hidden (K0.out.below b4)
   have L1 := hidden (K1.out.below b4)
   have L3 := hidden (K3.out.below b4)
   have LB := hidden (KB.out.trans (b4.mono (by have := KB.out.size; omega)))
   clear YO YR YM K0 K1 K3 KB b4 q0 q1 q2 q3
   obtain ⟨q0, q1, q2, q3⟩ := XM.out.cells4
   obtain ⟨x0, x1, x2, x3⟩ := XO.out.cells4
   have hn1' : 0 < n0 := by have := mem_some hM; omega
   obtain ⟨gS, hb0⟩ : ∃ gS, b0 = some ⟨gS, 0, none⟩ := by
    rcases L0.out.rowShape with h | ⟨g, h⟩
    . omega
    exact ⟨g, h⟩
   subst hb0
   obtain ⟨fpS0, mS0, rS0⟩ := L0.out.mine
   have hgS := rS0 gS (row_parts mS0).1
   obtain ⟨gC, FC, hC0, hC1, hC2⟩ := cache_parts L1.out
   have MS0 := hidden mS0
   have RS0 := hidden rS0
   have HC1 := hidden hC1
   have HC2 := hidden hC2
   clear mS0 rS0 hC1 hC2
   go_wp2
   clear x0 x1 x2 x3
   go_loopw [4] (fun i wr => ∃ (j : Nat) (fpS : List Nat), j <= n1 /\ i = .int .i64 j /\ Turned [gS] w3 wr /\ tIntSS.Mine wr [.slice (some ⟨gS, 0, none⟩) n0 e0] (flushD ss (cs.take j)) fpS /\ (∀ b ∈ fpS, (m1 <= b /\ b < m2) ∨ ∃ i, i < j /\ b ∈ FC i)) (fun i _ => n1 - (intOf i).toNat)
   case atStart => exact ⟨0, fpS0, Nat.zero_le _, rfl, Turned.refl _ _, by rw [List.take_zero, flushD_nil]; exact MS0.out, fun b hb => .inl (RS0.out b hb)⟩
   obtain ⟨j, fpS, hj, rfl, tn, hS, hfp⟩ := hrel
   have hs := tn.size
   have xo := XO.out.turned tn (by simp; omega)
   obtain ⟨y0, y1, y2, y3⟩ := xo.cells4
   by_cases hjn : j < n1
   . have k1 : (0 : Int) <= (j : Int) := by omega
     have k2 : (j : Int) < (n1 : Int) := by omega
     rcases hC0 with hC0 | ⟨rfl, hC3, hC4⟩
     . omega
     have hdj : cs[j]? = some (cs[j]'(by omega)) := List.getElem?_eq_getElem (by omega)
     have htk : cs.take (j + 1) = cs.take j ++ [cs[j]'(by omega)] := List.take_succ_eq_append_getElem (by omega)
     have hmem : cs[j]'(by omega) ∈ cs := List.getElem_mem _
     generalize cs[j]'(by omega) = x at hdj htk hmem
     obtain ⟨q, hq, hql⟩ := mem_writes_lt hM x hmem
     obtain ⟨av, cv, mx, rx, cv0, cv1⟩ := HC1.out j x hdj
     obtain ⟨x0, x1⟩ := x
     simp only at hq mx rx cv0 cv1
     subst hq
     have ncs : gC ≠ gS := by omega
     have d0 := (cell_kept (tn.block gC (by omega) (by simp; omega)) (j * 2)).trans cv0
     have d1 := (cell_kept (tn.block gC (by omega) (by simp; omega)) (j * 2 + 1)).trans cv1
     have mr := mx.kept tn (fun b hb hb' => by have := rx b hb; simp at hb'; omega)
     obtain ⟨⟨old, cOld⟩, fz, hgm, fpA, mA, rA⟩ := row_set1 (j := q) rfl hS (by omega) mr (fun b hb hb' => by
      have h1 := rx b hb
      rcases hfp b hb' with h2 | ⟨i, h2, h3⟩
      . omega
      exact HC2.out i j h2 (by omega) b h3 hb)
     have hfA : ∀ b ∈ fpA, (m1 <= b /\ b < m2) ∨ ∃ i, i < j + 1 /\ b ∈ FC i := fun b hb => by
      rcases rA b hb with h | h
      . rcases hfp b h with h2 | ⟨i, h2, h3⟩
        . exact .inl h2
        exact .inr ⟨i, by omega, h3⟩
      exact .inr ⟨j, by omega, h⟩
     have k3 : (0 : Int) <= (q : Int) := by omega
     have k4 : (q : Int) < (n0 : Int) := by omega
     have HTK := hidden htk
     have HFA := hidden hfA
     have MA := hidden mA
     have TA := hidden (tn.trans (Turned.setCell (w := wr) (g := gS) (j := q) (.slice av x1.length cv) (List.mem_cons_self : gS ∈ [gS])))
     have XOR := hidden xo
     have nO : Hid (w1.heap.size ≠ gS) := by unfold Hid; omega
     have nC : Hid (gC ≠ gS) := ncs
     have hT : Hid (wr.cell? ⟨gC, j * 2, none⟩ = some (.int .i64 (q : Int)) /\ wr.cell? ⟨gC, j * 2 + 1, none⟩ = some (.slice av x1.length cv)) := ⟨d0, d1⟩
     clear hdj htk hmem mx rx cv0 cv1 mr hfA mA rA tn hS hfp xo hgm ncs
     go_wp2_with fail
     go_region_held3 (fun w' => w'.cell? ⟨w1.heap.size, 0, none⟩ = some (.slice (some ⟨gS, 0, none⟩) n0 e0) /\ w'.cell? ⟨w1.heap.size, 1, none⟩ = some (.slice (some ⟨gC, 0, none⟩) n1 e1) /\ w'.cell? ⟨gC, j * 2, none⟩ = some (.int .i64 (q : Int)) /\ w'.cell? ⟨gC, j * 2 + 1, none⟩ = some (.slice av x1.length cv))
      (first | (exact ⟨y0, y1, d0, d1⟩) | (exact ⟨(XOR.out.other nO.out q (.slice av x1.length cv)).cell 0, (XOR.out.other nO.out q (.slice av x1.length cv)).cell 1, (cell_kept (Below.heap_setCell _ _ _ _ nC.out) _).trans d0, (cell_kept (Below.heap_setCell _ _ _ _ nC.out) _).trans d1⟩) | go_keep)
      (fail)
     clear d0 d1 y0 y1 y2 y3 cOld fz XOR nO nC hT
     go_wp2
     go_roundw
     case rel => exact ⟨j + 1, fpA, by omega, by go_num, Turned.adrew TA.out, by rw [HTK.out, flushD_snoc (by omega)]; exact Ty.Mine.adrew MA.out, HFA.out⟩
     case measure => simp [intOf]; omega
   have e : n1 = j := by omega
   subst e
   rw [List.take_of_length_le (by omega)] at hS
   have yo := xo.alloc (.cells #[] 109)
   have ys := yo.set 1 (.slice (some ⟨wr.heap.size, 0, none⟩) 0 0)
   have yt := ((XR.out.turned tn (by simp; omega)).alloc (.cells #[] 109)).other (g := w1.heap.size) (by omega) 1 (.slice (some ⟨wr.heap.size, 0, none⟩) 0 0)
   obtain ⟨s0, s1, s2, s3⟩ := yo.cells4
   have fo := yo.frozen 1
   obtain ⟨t0, t1, t2, t3⟩ := Box.cells4 (v0 := .slice (some ⟨gS, 0, none⟩) n0 e0) (v1 := (.slice (some ⟨wr.heap.size, 0, none⟩) 0 0)) (v2 := .bool false) (v3 := .slice b3 n3 e3) ys
   obtain ⟨p0, p1, p2, p3⟩ := yt.cells4
   have fz := yt.frozen
   have zl : (wr.alloc (.cells #[] 109)).heap.size = wr.heap.size + 1 := by simp
   have ZL := hidden zl
   have bo := But.setCell (lo := w1.heap.size) (hi := w1.heap.size + 1) (g := w1.heap.size) (j := 1) (w := (wr.alloc (.cells #[] 109))) (Nat.le_refl _) (Nat.lt_succ_self _) (.slice (some ⟨wr.heap.size, 0, none⟩) 0 0)
   have bl : Below wr.heap.size wr (wr.alloc (.cells #[] 109)) := (Below.refl _ _).alloc (Nat.le_refl _) _
   have kl := ((lit0_mine (t := tWr) (E := 109) wr).own (lo := wr.heap.size) (hi := wr.heap.size + 1) (fun b hb => by simp at hb; omega)).but bo (.inr (by omega))
   have k0 := ((hS.own (lo := m1) (hi := w1.heap.size) (fun b hb => by
    rcases hfp b hb with h | ⟨i, h2, h3⟩
    . omega
    by_cases hin : i < n1
    . obtain ⟨_, _, _, r, _⟩ := HC1.out i _ (List.getElem?_eq_getElem (by omega))
      have := r b h3
      omega
    omega)).below bl).but bo (.inl (Nat.le_refl _))
   have k3 := ((L3.out.but (tn.but (lo := m1) (hi := m2) (by simp; omega)) (.inl (Nat.le_refl _))).below bl).but bo (.inl (by omega))
   have kb : Below w.heap.size w ((wr.alloc (.cells #[] 109)).setCell ⟨w1.heap.size, 1, none⟩ (.slice (some ⟨wr.heap.size, 0, none⟩) 0 0)) := LB.out.trans ((tn.below (N := w.heap.size) (by omega) (by simp; omega)).trans ((bl.mono (by omega)).trans (bo.below (by omega) (by omega))))
   have zs := bo.size
   clear zl bo bl hS tn hfp xo yo ys yt q0 q1 q2 q3 XM hC0 HC1 HC2 MS0 RS0
   go_wp2
   generalize ((wr.alloc (.cells #[] 109)).setCell ⟨w1.heap.size, 1, none⟩ (.slice (some ⟨wr.heap.size, 0, none⟩) 0 0)) = wz at t0 t1 t2 t3 p0 p1 p2 p3 fz kl k0 k3 kb zs ⊢
   have zL := ZL.out
   have hbt : But (w.heap.size + 1) (w.heap.size + 2) wz ((((wz.setCell ⟨w.heap.size + 1, 0, none⟩ (.slice (some ⟨gS, 0, none⟩) n0 e0)).setCell ⟨w.heap.size + 1, 1, none⟩ (.slice (some ⟨wr.heap.size, 0, none⟩) 0 0)).setCell ⟨w.heap.size + 1, 2, none⟩ (.bool false)).setCell ⟨w.heap.size + 1, 3, none⟩ (.slice b3 n3 e3)) :=
    (((But.setCell (by omega) (by omega) _).trans (But.setCell (by omega) (by omega) _)).trans (But.setCell (by omega) (by omega) _)).trans (But.setCell (by omega) (by omega) _)
   have z9 := hbt.size
   refine bodyPost_ret (v := .agg #[.slice (some ⟨gS, 0, none⟩) n0 e0, (.slice (some ⟨wr.heap.size, 0, none⟩) 0 0), .bool false, .slice b3 n3 e3]) (by simp [results, Tryz.results141, go_sem, p0, p1, p2, p3]) rfl ?_
   exact ⟨_, _, _, rfl, mem_own3 (k0.but hbt (by omega)) (kl.but hbt (by omega)) (k3.but hbt (by omega)) (by omega) (by omega) (by omega) (by omega) (by omega) (by omega), Below.andBut kb hbt (by omega)⟩
 have hM : memB ss cs bs = false := by simpa using hM
 have e1 : flSS ss cs f bs = ss := by unfold flSS; simp [hM]
 have e2 : flCS ss cs f bs = cs := by unfold flCS; simp [hM]
 rw [e1, e2]
 clear e1 e2
 have hA : Below w.heap.size w ((w.alloc (.cells #[.slice a0 n0 c0, .slice a1 n1 c1, .bool f, .slice a3 n3 c3] 51)).alloc (.cells #[.slice none 0 0, .slice none 0 0, .bool false, .slice none 0 0] 51)) := ((Below.refl _ _).alloc (Nat.le_refl _) _).alloc (by simp) _
 have xm : Box ((w.alloc (.cells #[.slice a0 n0 c0, .slice a1 n1 c1, .bool f, .slice a3 n3 c3] 51)).alloc (.cells #[.slice none 0 0, .slice none 0 0, .bool false, .slice none 0 0] 51)) w.heap.size 51 #[.slice a0 n0 c0, .slice a1 n1 c1, .bool f, .slice a3 n3 c3] := (Box.new w _ _).alloc _
 have xr : Box ((w.alloc (.cells #[.slice a0 n0 c0, .slice a1 n1 c1, .bool f, .slice a3 n3 c3] 51)).alloc (.cells #[.slice none 0 0, .slice none 0 0, .bool false, .slice none 0 0] 51)) (w.heap.size + 1) 51 #[.slice none 0 0, .slice none 0 0, .bool false, .slice none 0 0] := by
  have := Box.new (w.alloc (.cells #[.slice a0 n0 c0, .slice a1 n1 c1, .bool f, .slice a3 n3 c3] 51)) 51 #[.slice none 0 0, .slice none 0 0, .bool false, .slice none 0 0]
  rw [show (w.alloc (.cells #[.slice a0 n0 c0, .slice a1 n1 c1, .bool f, .slice a3 n3 c3] 51)).heap.size = w.heap.size + 1 by simp] at this
  exact this
 go_enter Tryz.func141, Tryz.ntmps141
 go_wp2_with fail
 generalize hW : (w.alloc (.cells #[.slice a0 n0 c0, .slice a1 n1 c1, .bool f, .slice a3 n3 c3] 51)).alloc (.cells #[.slice none 0 0, .slice none 0 0, .bool false, .slice none 0 0] 51) = W at hA xm xr ⊢
 clear hW
 have zr := xr.lt
 obtain ⟨q0, q1, q2, q3⟩ := xm.cells4
 have XM := hidden xm
 have XR := hidden xr
 clear xm xr
 refine (l2Copy_any _ E _ _ _ _ _ _ _ _ _ ss cs f bs (h0.below hA) (h1.below hA) (h3.below hA) hw).mono ?_
 intro e w1 hc
 obtain ⟨b0, b1, b3, e0, e1, e3, m1, m2, rfl, o3, o0, o1, r1, r2, r3, bb⟩ := copy_shapes hl0 hl1 hl3 hc
 clear hc
 have z1 := bb.size
 have sW : w.heap.size + 2 <= W.heap.size := by omega
 have ba : Below w1.heap.size w1 (w1.alloc (.cells #[.slice b0 n0 e0, .slice b1 n1 e1, .bool f, .slice b3 n3 e3] 51)) := (Below.refl _ _).alloc (Nat.le_refl _) _
 have yo := Box.new w1 51 #[.slice b0 n0 e0, .slice b1 n1 e1, .bool f, .slice b3 n3 e3]
 have zo := yo.lt
 have YO := hidden yo
 have YR := hidden ((XR.out.below bb zr).below ba (by omega))
 have YM := hidden ((XM.out.below bb (by omega)).below ba (by omega))
 have K0 := hidden (o0.below ba)
 have K1 := hidden (o1.below ba)
 have K3 := hidden (o3.below ba)
 have KB := hidden (hA.trans ((bb.mono (by omega : w.heap.size <= W.heap.size)).trans (ba.mono (by omega))))
 clear yo o0 o1 o3 XM XR bb ba hA q0 q1 q2 q3
 obtain ⟨q0, q1, q2, q3⟩ := YM.out.cells4
 go_wp2_with fail
 generalize w1.alloc (.cells #[.slice b0 n0 e0, .slice b1 n1 e1, .bool f, .slice b3 n3 e3] 51) = w2 at YO YR YM K0 K1 K3 KB zo q0 q1 q2 q3 ⊢
 refine (specMemOk_any _ E _ _ _ _ _ _ _ _ _ ss cs f bs (h0.below KB.out) (h1.below KB.out) (h3.below KB.out) hw).mono ?_
 rintro e w3 ⟨rfl, b4⟩
 have z3 := b4.size
 have XO := hidden (YO.out.below b4 (by omega))
 have XR := hidden (YR.out.below b4 (by omega))
 have XM := hidden (YM.out.below b4 (by omega))
 have L0 := hidden (K0.out.below b4)
 have L1 := hidden (K1.out.below b4)
 have L3 := hidden (K3.out.below b4)
 have LB := hidden (KB.out.trans (b4.mono (by have := KB.out.size; omega)))
 clear YO YR YM K0 K1 K3 KB b4 q0 q1 q2 q3
 obtain ⟨q0, q1, q2, q3⟩ := XM.out.cells4
 obtain ⟨x0, x1, x2, x3⟩ := XO.out.cells4
 obtain ⟨p0, p1, p2, p3⟩ := XR.out.cells4
 have fz := XR.out.frozen
 have hbt : But (w.heap.size + 1) (w.heap.size + 2) w3 ((((w3.setCell ⟨w.heap.size + 1, 0, none⟩ (.slice b0 n0 e0)).setCell ⟨w.heap.size + 1, 1, none⟩ (.slice b1 n1 e1)).setCell ⟨w.heap.size + 1, 2, none⟩ (.bool f)).setCell ⟨w.heap.size + 1, 3, none⟩ (.slice b3 n3 e3)) :=
  (((But.setCell (by omega) (by omega) _).trans (But.setCell (by omega) (by omega) _)).trans (But.setCell (by omega) (by omega) _)).trans (But.setCell (by omega) (by omega) _)
 have z9 := hbt.size
 have FIN : Hid ((tMem 109).Own ((((w3.setCell ⟨w.heap.size + 1, 0, none⟩ (.slice b0 n0 e0)).setCell ⟨w.heap.size + 1, 1, none⟩ (.slice b1 n1 e1)).setCell ⟨w.heap.size + 1, 2, none⟩ (.bool f)).setCell ⟨w.heap.size + 1, 3, none⟩ (.slice b3 n3 e3)) w.heap.size ((((w3.setCell ⟨w.heap.size + 1, 0, none⟩ (.slice b0 n0 e0)).setCell ⟨w.heap.size + 1, 1, none⟩ (.slice b1 n1 e1)).setCell ⟨w.heap.size + 1, 2, none⟩ (.bool f)).setCell ⟨w.heap.size + 1, 3, none⟩ (.slice b3 n3 e3)).heap.size [.slice b0 n0 e0, .slice b1 n1 e1, .bool f, .slice b3 n3 e3] (ss, cs, f, bs)) := mem_own3 (L0.out.but hbt (by omega)) (L1.out.but hbt (by omega)) (L3.out.but hbt (by omega)) (by omega) (by omega) (by omega) (by omega) (by omega) (by omega)
 have FB := hidden (Below.andBut LB.out hbt (by omega))
 clear hbt
 go_wp2
 refine bodyPost_ret (v := .agg #[.slice b0 n0 e0, .slice b1 n1 e1, .bool f, .slice b3 n3 e3]) (by simp [results, Tryz.results141, go_sem, p0, p1, p2, p3]) rfl ?_
 exact ⟨_, _, _, rfl, FIN.out, FB.out⟩

theorem l7Sync_any (w : World) (B : Nat) (x : ArrN) (ms : List MemD) (ds : List (Int × List Int)) (fm fd : List Nat) (h : ArrAt w B x ms ds fm fd) (hf : x.fuse <= 1000) (hM : MsOk ms) :
 Calls Tryz.prog 106 #[.pointer (some ⟨B, 0, none⟩)] w fun e w' => e = .returned (.tuple #[]) /\ ∃ fm', ArrAt w' B (syncS (x, ms) ms.length).1 (syncS (x, ms) ms.length).2 ds fm' fd /\ Moved B fm w fm' w' := by
 have hkp := fun j => syncS_keeps (q := (x, ms)) hM hf j
 have HK := hidden hkp
 clear hkp
 have H0 := hidden h
 obtain ⟨bm0, bd0, cm0, cd0, X0, hm0, _⟩ := h
 have hmx := (row_length hm0.rd).2
 clear X0 hm0
 go_enter Tryz.func106, Tryz.ntmps106
 go_wp2
 go_loopw [2] (fun i wr => ∃ (j : Nat) (fm1 : List Nat), j <= ms.length /\ i = .int .i64 j /\ ArrAt wr B (syncS (x, ms) j).1 (syncS (x, ms) j).2 ds fm1 fd /\ Moved B fm w fm1 wr) (fun i _ => ms.length - (intOf i).toNat)
 case atStart => exact ⟨0, fm, Nat.zero_le _, rfl, H0.out, Moved.refl _ _ _⟩
 obtain ⟨j, fm1, hj, rfl, hA, hMv⟩ := hrel
 obtain ⟨hMj, hsj, hlj⟩ := HK.out j
 have hfj := hsj.2.2.2.2.2.2.2.2.2.1
 have HS := hidden (syncS_succ (x, ms) j)
 generalize hst : syncS (x, ms) j = st at hA hMj hsj hlj hfj HS
 have HST := hidden hst
 clear hst
 obtain ⟨y, ns⟩ := st
 dsimp only at hA hMj hsj hlj hfj
 have HA := hidden hA
 obtain ⟨bm, bd, cm, cd, X, hmm, hdd, hr, r1, r2⟩ := hA
 rw [hlj] at X hmm
 have X0 := X
 unfold arrC at X0
 obtain ⟨k0, k1, k2, k3, k4, k5, k6, k7, k8, k9, k10, k11, k12⟩ := X0.cells13
 by_cases hjn : j < ms.length
 . have i2 : (j : Int) < (ms.length : Int) := by omega
   have i1 : (0 : Int) <= (j : Int) := by omega
   obtain ⟨g, rfl⟩ := row_head hmm (by omega)
   have hdj : ns[j]? = some (ns[j]'(by omega)) := List.getElem?_eq_getElem (by omega)
   generalize ns[j]'(by omega) = d at hdj
   obtain ⟨hgl, a0, a1, a3, c0, c1, c3, ss, cs, f, bs, rfl, q0, q1, q2, q3, _, _, _⟩ := disk_at hmm hdj
   have MV := hidden hMv
   clear X X0 hmm hdd hMv
   cases f
   . go_wp2_with fail
     refine (l7Op_any _ B y ns ds fm1 fd HA.out hfj).mono ?_
     rintro e w1 ⟨rfl, hA1, hMv1⟩
     clear k0 k1 k2 k3 k4 k5 k6 k7 k8 k9 k10 k11 k12 q0 q1 q2 q3 HA
     cases ho : opB y
     . have HP : Hid (syncS (x, ms) (j + 1) = (opX y, ns)) := HS.out.trans (doS_no hdj rfl ho)
       have HB := hidden (MV.out.trans hMv1)
       have HA1 := hidden hA1
       clear hA1 hMv1
       go_wp2
       go_roundw
       case rel => exact ⟨j + 1, fm1, by omega, by go_num, by rw [HP.out]; exact HA1.out, HB.out⟩
       case measure => simp [intOf]; omega
     have HP : Hid (syncS (x, ms) (j + 1) = (opX y, ns.set j (flM (ss, cs, false, bs)))) := HS.out.trans (doS_yes hdj rfl ho)
     obtain ⟨bm, bd, cm, cd, X, hmm, hdd, hr, r1, r2⟩ := hA1
     obtain ⟨g, rfl⟩ := row_head hmm (by omega)
     obtain ⟨hgl, a0, a1, a3, c0, c1, c3, ss, cs, f, bs, hde, q0, q1, q2, q3, p0, p1, p3⟩ := disk_at hmm hdj
     simp only [Prod.mk.injEq] at hde
     obtain ⟨rfl, rfl, rfl, rfl⟩ := hde
     have X0 := X
     unfold arrC at X0
     have x3 := X0.cells13.2.2.2.1
     have hwt := memB_light (hMj j _ hdj) false
     dsimp only at hwt
     have zB := X.lt
     have XH := hidden X
     have MH := hidden hmm
     have DH := hidden hdd
     have MV1 := hidden hMv1
     have R0 := hidden p0
     have R1 := hidden p1
     have R3 := hidden p3
     have hS : w1.drew.cell? ⟨B, 3, none⟩ = some (.slice (some ⟨g, 0, none⟩) ns.length cm) /\ w1.drew.cell? ⟨g, j * 4, none⟩ = some (.slice a0 ss.length c0) /\ w1.drew.cell? ⟨g, j * 4 + 1, none⟩ = some (.slice a1 cs.length c1) /\ w1.drew.cell? ⟨g, j * 4 + 2, none⟩ = some (.bool false) /\ w1.drew.cell? ⟨g, j * 4 + 3, none⟩ = some (.slice a3 bs.length c3) := ⟨x3, q0, q1, q2, q3⟩
     have i3 : (j : Int) < (ns.length : Int) := by omega
     clear X X0 hmm hdd hMv1 p0 p1 p3
     go_wp2_with fail
     refine Upto.start (S := fun w' => w'.cell? ⟨B, 3, none⟩ = some (.slice (some ⟨g, 0, none⟩) ns.length cm) /\ w'.cell? ⟨g, j * 4, none⟩ = some (.slice a0 ss.length c0) /\ w'.cell? ⟨g, j * 4 + 1, none⟩ = some (.slice a1 cs.length c1) /\ w'.cell? ⟨g, j * 4 + 2, none⟩ = some (.bool false) /\ w'.cell? ⟨g, j * 4 + 3, none⟩ = some (.slice a3 bs.length c3)) (k := 14) (by kernel_rfl) ?_
     refine Upto.t 0 hS ?_
     refine Upto.t 1 hS ?_
     refine Upto.t 2 hS ?_
     refine Upto.t 3 hS ?_
     refine Upto.t 4 hS ?_
     refine Upto.t 5 hS ?_
     refine Upto.t 6 hS ?_
     refine Upto.t 7 hS ?_
     refine Upto.t 8 hS ?_
     refine Upto.t 9 hS ?_
     refine Upto.t 10 hS ?_
     refine Upto.t 11 hS ?_
     refine Upto.one (i := 12) (by kernel_rfl) rfl (fun K hK => ?_)
     go_simp
     refine (specFlushMem_any _ 109 _ _ _ _ _ _ _ _ _ ss cs false bs R0.out.drew R1.out.drew R3.out.drew (by omega)).mono ?_
     rintro e w2 ⟨u0, u1, u3, rfl, o2, b2'⟩
     have b2 : Below w1.heap.size w1 w2 := (Below.refl w1.heap.size w1).drew.trans b2'
     have o2b : (tMem 109).Own w2 w1.heap.size w2.heap.size [u0, u1, .bool false, u3] _ := o2
     obtain ⟨d0, l0, f0, d1, l1, f1, d3, l3, f3, hv0, hv1, hv3⟩ := mem_slices o2b
     subst hv0 hv1 hv3
     obtain ⟨fpx, mx, rx⟩ := o2b.mine
     obtain ⟨cOld, fz, hgm, fm9, hA9, hMv9⟩ := arr_store (m := j) XH.out MH.out DH.out hr r1 r2 b2 (by omega) mx (fun b hb => (rx b hb).1)
     obtain ⟨o0, t0⟩ := cOld 0 (by omega)
     obtain ⟨o1, t1⟩ := cOld 1 (by omega)
     obtain ⟨o2', t2⟩ := cOld 2 (by omega)
     obtain ⟨o3, t3⟩ := cOld 3 (by omega)
     rw [Nat.add_zero] at t0
     have HA := hidden hA9
     have HMV := hidden ((MV.out.trans MV1.out).trans hMv9)
     have hS2 : w2.cell? ⟨B, 3, none⟩ = some (.slice (some ⟨g, 0, none⟩) ns.length cm) /\ w2.cell? ⟨g, j * 4, none⟩ = some (.slice a0 ss.length c0) /\ w2.cell? ⟨g, j * 4 + 1, none⟩ = some (.slice a1 cs.length c1) /\ w2.cell? ⟨g, j * 4 + 2, none⟩ = some (.bool false) /\ w2.cell? ⟨g, j * 4 + 3, none⟩ = some (.slice a3 bs.length c3) := ⟨(b2.cell (p := ⟨B, 3, none⟩) zB).trans x3, (b2.cell (p := ⟨g, j * 4, none⟩) hgl).trans q0, (b2.cell (p := ⟨g, j * 4 + 1, none⟩) hgl).trans q1, (b2.cell (p := ⟨g, j * 4 + 2, none⟩) hgl).trans q2, (b2.cell (p := ⟨g, j * 4 + 3, none⟩) hgl).trans q3⟩
     have gB : ¬ g = B := fun e => r1 (e ▸ hgm)
     unfold put4 at HA HMV
     clear x3 q0 q1 q2 q3 o2 o2b b2 b2' mx rx cOld hA9 hMv9 XH MH DH MV MV1 R0 R1 R3 hwt
     go_wp2_with fail
     refine hK.out _ _ (fun _ => hS2) ?_
     clear hK K
     refine Upto.t 13 hS2 ?_
     refine Upto.one (i := 14) (by kernel_rfl) rfl (fun K hK => ?_)
     go_simp
     refine hK.out _ _ (fun h => absurd rfl h) ?_
     clear hK K
     refine Upto.done (by kernel_rfl) ?_ _
     clear hS hS2 t0 t1 t2 t3 fz
     go_wp2
     go_roundw
     case rel => exact ⟨j + 1, fm9, by omega, by go_num, by rw [HP.out]; exact HA.out, HMV.out⟩
     case measure => simp [intOf]; omega
   have HP : Hid (syncS (x, ms) (j + 1) = (y, ns)) := HS.out.trans (doS_failed hdj rfl)
   go_wp2
   go_roundw
   case rel => exact ⟨j + 1, fm1, by omega, by go_num, by rw [HP.out]; exact HA.out, MV.out⟩
   case measure => simp [intOf]; omega
 have ej : j = ms.length := by omega
 subst ej
 have HMV := hidden hMv
 clear X X0 hmm hdd hMv
 go_wp2
 refine bodyPost_end (v := .tuple #[]) (results_none rfl _ _ _) rfl ?_
 exact ⟨rfl, fm1, by rw [HST.out]; exact HA.out, HMV.out⟩

theorem putD_len9 (x : Sup) : (putD x).length <= 9 := by unfold putD; split <;> simp

theorem l7Mark_any (w : World) (B : Nat) (x : ArrN) (ms : List MemD) (ds : List (Int × List Int)) (fm fd : List Nat) (h : ArrAt w B x ms ds fm fd) (hf : x.fuse <= 1000) (hM : MsOk ms) (hg0 : 0 <= x.gen) (hg1 : x.gen <= 60000) :
 Calls Tryz.prog 64 #[.pointer (some ⟨B, 0, none⟩)] w fun e w' => e = .returned (.tuple #[]) /\ ∃ fm', ArrAt w' B (markS (x, ms)).1 (markS (x, ms)).2 ds fm' fd /\ Moved B fm w fm' w' := by
 obtain ⟨x1, hx1⟩ : ∃ x1 : ArrN, x1 = {x with gen := x.gen + 1} := ⟨_, rfl⟩
 have hf1 : x1.fuse <= 1000 := by rw [hx1]; exact hf
 have hgen : x1.gen = x.gen + 1 := by rw [hx1]
 have hgw : IntKind.i64.wrap (x.gen + 1) = x.gen + 1 := IntWalk.i64_in _ (by omega)
 have HK : Hid (∀ j, _) := fun j => supsS_keeps (q := (x1, ms)) hM hf1 j
 have HMK : Hid (markS (x, ms) = syncS (supsS (x1, ms) ms.length) ms.length) := by rw [hx1]; rfl
 obtain ⟨bm0, bd0, cm0, cd0, X0, hm0, hd0, hr0, r10, r20⟩ := h
 have hmx := (row_length hm0.rd).2
 have A1 : Hid (ArrAt (w.setCell ⟨B, 8, none⟩ (.int .i64 (x.gen + 1))) B x1 ms ds fm fd) := by
  unfold Hid
  rw [hx1]
  exact ⟨bm0, bd0, cm0, cd0, X0.set 8 (.int .i64 (x.gen + 1)), hm0.setCell (g := B) (j := 8) r10 _, hd0.setCell (g := B) (j := 8) r20 _, hr0, r10, r20⟩
 have M1 := hidden (Moved.set (B := B) (j := 8) (fm := fm) (w := w) (.int .i64 (x.gen + 1)))
 unfold arrC at X0
 obtain ⟨k0, k1, k2, k3, k4, k5, k6, k7, k8, k9, k10, k11, k12⟩ := X0.cells13
 have fz := X0.frozen
 have hgn : 0 <= x1.gen /\ x1.gen <= 60001 := by omega
 clear X0 hm0 hd0 hr0 r10 r20 hx1 hgen
 go_enter Tryz.func64, Tryz.ntmps64
 go_wp2
 generalize w.setCell ⟨B, 8, none⟩ (.int .i64 (x.gen + 1)) = W at A1 M1 ⊢
 clear k0 k1 k2 k3 k4 k5 k6 k7 k8 k9 k10 k11 k12 fz
 go_loopw [2] (fun i wr => ∃ (j : Nat) (fm1 : List Nat), j <= ms.length /\ i = .int .i64 j /\ ArrAt wr B (supsS (x1, ms) j).1 (supsS (x1, ms) j).2 ds fm1 fd /\ Moved B fm w fm1 wr) (fun i _ => ms.length - (intOf i).toNat)
 case atStart => exact ⟨0, fm, Nat.zero_le _, rfl, A1.out, M1.out⟩
 clear A1 M1
 obtain ⟨j, fm1, hj, rfl, hA, hMv⟩ := hrel
 obtain ⟨hMj, hsj, hlj⟩ := HK.out j
 have hfj := hsj.2.2.2.2.2.2.2.2.2.1
 have hgj := hsj.2.2.2.2.2.2.2.1
 have HS := hidden (supsS_succ (x1, ms) j)
 generalize hst : supsS (x1, ms) j = st at hA hMj hsj hlj hfj hgj HS
 have HST := hidden hst
 clear hst
 obtain ⟨y, ns⟩ := st
 dsimp only at hA hMj hsj hlj hfj hgj HS
 have hgy : 0 <= y.gen /\ y.gen <= 60001 := by omega
 clear hgj hsj
 have HA := hidden hA
 obtain ⟨bm, bd, cm, cd, X, hmm, hdd, hr, r1, r2⟩ := hA
 rw [hlj] at X
 unfold arrC at X
 have zB := X.lt
 have XH := hidden X
 obtain ⟨k0, k1, k2, k3, k4, k5, k6, k7, k8, k9, k10, k11, k12⟩ := X.cells13
 clear hmm hdd hr r1 r2 X
 by_cases hjn : j < ms.length
 . have i2 : (j : Int) < (ms.length : Int) := by omega
   have t2 : y.gen.tmod 2 = y.gen % 2 := Int.tmod_eq_emod_of_nonneg hgy.1
   have t3 : IntKind.i64.wrap (y.gen % 2) = y.gen % 2 := IntWalk.i64_in _ (by omega)
   have t4 : ¬ (2 : Int) = 0 := by omega
   have MV := hidden hMv
   clear hMv
   have hS : wr.drew.cell? ⟨B, 0, none⟩ = some (.int .i64 y.id) /\ wr.drew.cell? ⟨B, 1, none⟩ = some (.int .i64 y.n) /\ wr.drew.cell? ⟨B, 2, none⟩ = some (.int .i64 y.s) /\ wr.drew.cell? ⟨B, 4, none⟩ = some (.int .i64 y.lost) /\ wr.drew.cell? ⟨B, 5, none⟩ = some (.int .i64 y.built) /\ wr.drew.cell? ⟨B, 7, none⟩ = some (.int .i64 y.tail) /\ wr.drew.cell? ⟨B, 8, none⟩ = some (.int .i64 y.gen) := ⟨k0, k1, k2, k4, k5, k7, k8⟩
   go_wp2_with fail
   refine wp_region_held_drew (S := fun w' => w'.cell? ⟨B, 0, none⟩ = some (.int .i64 y.id) /\ w'.cell? ⟨B, 1, none⟩ = some (.int .i64 y.n) /\ w'.cell? ⟨B, 2, none⟩ = some (.int .i64 y.s) /\ w'.cell? ⟨B, 4, none⟩ = some (.int .i64 y.lost) /\ w'.cell? ⟨B, 5, none⟩ = some (.int .i64 y.built) /\ w'.cell? ⟨B, 7, none⟩ = some (.int .i64 y.tail) /\ w'.cell? ⟨B, 8, none⟩ = some (.int .i64 y.gen)) (by kernel_rfl) ?_ (fun hHeld => ?_)
   . exact hS
   refine held_t 0 hHeld ?_
   refine held_t 1 hHeld ?_
   refine held_t 2 hHeld ?_
   refine held_t 3 hHeld ?_
   refine held_t 4 hHeld ?_
   refine held_t 5 hHeld ?_
   refine held_t 6 hHeld ?_
   refine held_t 7 hHeld ?_
   refine held_t 8 hHeld ?_
   refine held_t 9 hHeld ?_
   refine held_t 10 hHeld ?_
   refine held_t 11 hHeld ?_
   refine held_t 12 hHeld ?_
   refine held_t 13 hHeld ?_
   refine held_t 14 hHeld ?_
   refine held_t 15 hHeld ?_
   refine held_t 16 hHeld ?_
   refine held_t 17 hHeld ?_
   refine held_t 18 hHeld ?_
   refine held_t 19 hHeld ?_
   refine held_t 20 hHeld ?_
   refine held_t 21 hHeld ?_
   refine held_t 22 hHeld ?_
   refine held_t 23 hHeld ?_
   refine held_t 24 hHeld ?_
   refine held_t 25 hHeld ?_
   refine held_t 26 hHeld ?_
   refine held_t 27 hHeld ?_
   refine held_t 28 hHeld ?_
   refine held_t 29 hHeld ?_
   refine held_t 30 hHeld ?_
   refine held_t 31 hHeld ?_
   refine held_t 32 hHeld ?_
   refine held_t 33 hHeld ?_
   refine held_t 34 hHeld ?_
   refine held_t 35 hHeld ?_
   refine held_t 36 hHeld ?_
   refine held_t 37 hHeld ?_
   refine held_t 38 hHeld ?_
   refine held_one (i := 39) (by kernel_rfl) rfl (by kernel_rfl) (fun K hK => ?_)
   go_simp
   refine (specPutSuper_any _ (supA y j)).mono ?_
   rintro e w2 ⟨ap, lp, cp, rfl, o2, b2'⟩
   have b2 : Below wr.heap.size wr w2 := (Below.refl wr.heap.size wr).drew.trans b2'
   have o2b : tIntS.Own w2 wr.heap.size w2.heap.size [.slice ap lp cp] (putD (supA y j)) := o2
   obtain ⟨fpp, mp, rp⟩ := o2b.mine
   have hlp : lp <= 9 := by have h1 := (row_length o2b.rd).1; have h2 := putD_len9 (supA y j); omega
   have hS2 : w2.cell? ⟨B, 0, none⟩ = some (.int .i64 y.id) /\ w2.cell? ⟨B, 1, none⟩ = some (.int .i64 y.n) /\ w2.cell? ⟨B, 2, none⟩ = some (.int .i64 y.s) /\ w2.cell? ⟨B, 4, none⟩ = some (.int .i64 y.lost) /\ w2.cell? ⟨B, 5, none⟩ = some (.int .i64 y.built) /\ w2.cell? ⟨B, 7, none⟩ = some (.int .i64 y.tail) /\ w2.cell? ⟨B, 8, none⟩ = some (.int .i64 y.gen) := ⟨(b2.cell (p := ⟨B, 0, none⟩) zB).trans k0, (b2.cell (p := ⟨B, 1, none⟩) zB).trans k1, (b2.cell (p := ⟨B, 2, none⟩) zB).trans k2, (b2.cell (p := ⟨B, 4, none⟩) zB).trans k4, (b2.cell (p := ⟨B, 5, none⟩) zB).trans k5, (b2.cell (p := ⟨B, 7, none⟩) zB).trans k7, (b2.cell (p := ⟨B, 8, none⟩) zB).trans k8⟩
   have A2 := hidden (HA.out.below b2)
   have LT := hidden HA.out.ltm
   have MV2 := hidden (MV.out.below b2)
   have MP := hidden mp
   have RP := hidden rp
   clear k0 k1 k2 k3 k4 k5 k6 k7 k8 k9 k10 k11 k12 o2 o2b b2 b2' mp rp MV HA
   go_wp2_with fail
   clear hHeld
   refine hK.out _ _ ?_ (fun hHeld => ?_)
   . exact hS2
   clear hK K
   refine held_one (i := 40) (by kernel_rfl) rfl (by kernel_rfl) (fun K hK => ?_)
   go_simp
   refine (l7Put_any _ B y ns ds fm1 fd A2.out hfj hMj j (by omega) _ _ _ _ (putD (supA y j)) fpp MP.out (fun hm => by have := RP.out _ hm; omega) (fun b hb hm => by have h1 := RP.out b hb; have h2 := LT.out.1 b hm; omega) (by omega)).mono ?_
   rintro e w3 ⟨rfl, fm3, hA3, hMv3⟩
   have hsm : SameN y (putS (y, ns) j (y.gen % 2) (putD (supA y j))).1 := doS_same _ _ hfj
   have hS3 : w3.cell? ⟨B, 0, none⟩ = some (.int .i64 y.id) /\ w3.cell? ⟨B, 1, none⟩ = some (.int .i64 y.n) /\ w3.cell? ⟨B, 2, none⟩ = some (.int .i64 y.s) /\ w3.cell? ⟨B, 4, none⟩ = some (.int .i64 y.lost) /\ w3.cell? ⟨B, 5, none⟩ = some (.int .i64 y.built) /\ w3.cell? ⟨B, 7, none⟩ = some (.int .i64 y.tail) /\ w3.cell? ⟨B, 8, none⟩ = some (.int .i64 y.gen) := by
    obtain ⟨_, _, _, _, X3, _⟩ := hA3
    unfold arrC at X3
    obtain ⟨k0, k1, k2, k3, k4, k5, k6, k7, k8, k9, k10, k11, k12⟩ := X3.cells13
    obtain ⟨e1, e2, e3, e4, e5, e6, e7, e8, _⟩ := hsm
    rw [e1] at k0
    rw [e2] at k1
    rw [e3] at k2
    rw [e4] at k4
    rw [e5] at k5
    rw [e7] at k7
    rw [e8] at k8
    exact ⟨k0, k1, k2, k4, k5, k7, k8⟩
   have HA3 : Hid (ArrAt w3 B (supsS (x1, ms) (j + 1)).1 (supsS (x1, ms) (j + 1)).2 ds fm3 fd) := by unfold Hid; rw [HS.out]; exact hA3
   have HM3 := hidden (MV2.out.trans hMv3)
   clear hA3 hMv3 A2 MV2 MP RP LT hS2 hsm
   go_wp2_with fail
   clear hHeld
   refine hK.out _ _ ?_ (fun hHeld => ?_)
   . exact hS3
   clear hK K
   refine wpAnyH_done (by kernel_rfl) ?_ _
   clear hHeld
   clear hS hS3
   go_wp2
   go_roundw
   case rel => exact ⟨j + 1, fm3, by omega, by go_num, HA3.out, HM3.out⟩
   case measure => simp [intOf]; omega
 have ej : j = ms.length := by omega
 subst ej
 have HMV := hidden hMv
 clear hMv
 go_wp2_with fail
 refine (l7Sync_any _ B y ns ds fm1 fd HA.out hfj hMj).mono ?_
 rintro e w3 ⟨rfl, fm3, hA3, hMv3⟩
 clear k0 k1 k2 k3 k4 k5 k6 k7 k8 k9 k10 k11 k12
 go_wp2
 refine bodyPost_end (v := .tuple #[]) (results_none rfl _ _ _) rfl ?_
 exact ⟨rfl, fm3, by rw [HMK.out, HST.out, ← hlj]; exact hA3, HMV.out.trans hMv3⟩

theorem l7Check_any (w : World) (B : Nat) (x : ArrN) (ms : List MemD) (ds : List (Int × List Int)) (fm fd : List Nat) (h : ArrAt w B x ms ds fm fd) (hf : x.fuse <= 1000) (hM : MsOk ms) (hg0 : 0 <= x.gen) (hg1 : x.gen <= 60000) :
 Calls Tryz.prog 95 #[.pointer (some ⟨B, 0, none⟩)] w fun e w' => e = .returned (.tuple #[]) /\ ∃ fm', ArrAt w' B (checkS (x, ms)).1 (checkS (x, ms)).2 ds fm' fd /\ Moved B fm w fm' w' := by
 obtain ⟨hMj, hsj, hlj⟩ := syncS_keeps (q := (x, ms)) hM hf ms.length
 have hfj := hsj.2.2.2.2.2.2.2.2.2.1
 have hgj := hsj.2.2.2.2.2.2.2.1
 have HC : Hid (checkS (x, ms) = if (syncS (x, ms) ms.length).1.down = true then syncS (x, ms) ms.length else markS ({(syncS (x, ms) ms.length).1 with tail := (syncS (x, ms) ms.length).1.seq}, (syncS (x, ms) ms.length).2)) := rfl
 go_enter Tryz.func95, Tryz.ntmps95
 go_wp2_with fail
 refine (l7Sync_any _ B x ms ds fm fd h hf hM).mono ?_
 rintro e w1 ⟨rfl, fm1, hA, hMv⟩
 generalize syncS (x, ms) ms.length = st at hA hMj hsj hlj hfj hgj HC
 obtain ⟨y, ns⟩ := st
 dsimp only at hA hMj hsj hlj hfj hgj HC
 have HA := hidden hA
 obtain ⟨bm, bd, cm, cd, X, hmm, hdd, hr, r1, r2⟩ := hA
 have X0 := X
 unfold arrC at X0
 obtain ⟨k0, k1, k2, k3, k4, k5, k6, k7, k8, k9, k10, k11, k12⟩ := X0.cells13
 have fz := X0.frozen
 cases hdn : y.down
 . rw [hdn] at k11
   have HC2 : Hid (checkS (x, ms) = markS ({y with tail := y.seq}, ns)) := by unfold Hid; rw [HC.out, if_neg (by simp [hdn])]
   have A2 : Hid (ArrAt (w1.setCell ⟨B, 7, none⟩ (.int .i64 y.seq)) B {y with tail := y.seq} ns ds fm1 fd) := ⟨bm, bd, cm, cd, X.set 7 (.int .i64 y.seq), hmm.setCell (g := B) (j := 7) r1 _, hdd.setCell (g := B) (j := 7) r2 _, hr, r1, r2⟩
   have M2 := hidden (hMv.trans (Moved.set (B := B) (j := 7) (fm := fm1) (.int .i64 y.seq)))
   clear X X0 hmm hdd hMv HA hdn
   go_wp2_with fail
   refine (l7Mark_any _ B {y with tail := y.seq} ns ds fm1 fd A2.out hfj hMj (by dsimp only; omega) (by dsimp only; omega)).mono ?_
   rintro e w3 ⟨rfl, fm3, hA3, hMv3⟩
   clear k0 k1 k2 k3 k4 k5 k6 k7 k8 k9 k10 k11 k12 fz
   go_wp2
   refine bodyPost_end (v := .tuple #[]) (results_none rfl _ _ _) rfl ?_
   exact ⟨rfl, fm3, by rw [HC2.out]; exact hA3, M2.out.trans hMv3⟩
 rw [hdn] at k11
 have HC2 : Hid (checkS (x, ms) = (y, ns)) := by unfold Hid; rw [HC.out, if_pos hdn]
 clear X X0 hmm hdd hdn
 go_wp2
 refine bodyPost_ret (v := .tuple #[]) (by simp [results, Tryz.results95, go_sem]) rfl ?_
 exact ⟨rfl, fm1, by rw [HC2.out]; exact HA.out, hMv⟩

theorem arr_numbers {w : World} {B : Nat} {x : ArrN} {ms : List MemD} {ds : List (Int × List Int)} {fm fd : List Nat} (h : ArrAt w B x ms ds fm fd) (m : Int) : ArrAt ((w.setCell ⟨B, 4, none⟩ (.int .i64 m)).setCell ⟨B, 5, none⟩ (.int .i64 0)) B {x with lost := m, built := 0} ms ds fm fd /\ ArrAt (w.setCell ⟨B, 12, none⟩ (.bool true)) B {x with broken := true} ms ds fm fd := by
 obtain ⟨bm, bd, cm, cd, X, hm, hd, hr, r1, r2⟩ := h
 exact ⟨⟨bm, bd, cm, cd, (X.set 4 _).set 5 _, (hm.setCell r1 _).setCell r1 _, (hd.setCell r2 _).setCell r2 _, hr, r1, r2⟩, ⟨bm, bd, cm, cd, X.set 12 _, hm.setCell r1 _, hd.setCell r2 _, hr, r1, r2⟩⟩
theorem arr_cells {w : World} {B : Nat} {x : ArrN} {ms : List MemD} {ds : List (Int × List Int)} {fm fd : List Nat} (h : ArrAt w B x ms ds fm fd) : w.cell? ⟨B, 4, none⟩ = some (.int .i64 x.lost) /\ w.cell? ⟨B, 5, none⟩ = some (.int .i64 x.built) /\ w.cell? ⟨B, 8, none⟩ = some (.int .i64 x.gen) /\ w.cell? ⟨B, 11, none⟩ = some (.bool x.down) /\ w.cell? ⟨B, 12, none⟩ = some (.bool x.broken) /\ ∀ j, w.frozen? ⟨B, j, none⟩ = false := by
 obtain ⟨bm, bd, cm, cd, X, _⟩ := h
 have fz := X.frozen
 unfold arrC at X
 obtain ⟨k0, k1, k2, k3, k4, k5, k6, k7, k8, k9, k10, k11, k12⟩ := X.cells13
 exact ⟨k4, k5, k8, k11, k12, fz⟩

def dn12 (d : Bool) : Int := if d = true then 6 else 0
theorem ret_two {a b : Int} {p : Prop} (h : (Ending.returned (Value.int .i64 a) = .returned (.int .i64 b)) /\ p) : (Ending.returned (Value.int .i64 a) = .returned (.int .i64 b)) /\ p := h
def spareM (s : Int) : MemD := (newSS (6 + s), [], false, [])
def spareA (q : ArrN × List MemD) : ArrN × List MemD := markS ({q.1 with built := 0}, q.2.set q.1.lost.toNat (spareM q.1.s))
theorem arr_built0 {w : World} {B : Nat} {x : ArrN} {ms : List MemD} {ds : List (Int × List Int)} {fm fd : List Nat} (h : ArrAt w B x ms ds fm fd) (k : Int) : ArrAt (w.setCell ⟨B, 5, none⟩ (.int .i64 k)) B {x with built := k} ms ds fm fd := by
 obtain ⟨bm, bd, cm, cd, X, hm, hd, hr, r1, r2⟩ := h
 exact ⟨bm, bd, cm, cd, X.set 5 _, hm.setCell r1 _, hd.setCell r2 _, hr, r1, r2⟩

theorem l12Spare_any (w : World) (B : Nat) (x : ArrN) (ms : List MemD) (ds : List (Int × List Int)) (fm fd : List Nat) (h : ArrAt w B x ms ds fm fd) (hf : x.fuse <= 1000) (hM : MsOk ms) (hg0 : 0 <= x.gen) (hg1 : x.gen <= 60000) (hg : geoB x.n x.s = true) (m : Nat) (hlo : x.lost = (m : Int)) (hm : m < ms.length) :
 Calls Tryz.prog 46 #[.pointer (some ⟨B, 0, none⟩)] w fun e w' => e = .returned (.int .i64 (dn12 (spareA (x, ms)).1.down)) /\ ∃ fm', ArrAt w' B (spareA (x, ms)).1 (spareA (x, ms)).2 ds fm' fd /\ Moved B fm w fm' w' := by
 obtain ⟨g1, g2, g3, g4⟩ := geoB_iff.1 hg
 obtain ⟨bm, bd, cm, cd, X, hmm, hdd, hr, r1, r2⟩ := h
 have hm63 := (row_length hmm.rd).2
 obtain ⟨g, rfl⟩ := row_head hmm (by omega)
 have X0 := X
 unfold arrC at X0
 obtain ⟨k0, k1, k2, k3, k4, k5, k6, k7, k8, k9, k10, k11, k12⟩ := X0.cells13
 rw [hlo] at k4
 have zB := X.lt
 have HOK : Hid (MsOk (ms.set m (spareM x.s))) := hM.set (memB_new (by omega) (by omega))
 have HSA : Hid (spareA (x, ms) = markS ({x with built := 0}, ms.set m (spareM x.s))) := by unfold Hid spareA; dsimp only; rw [hlo, Int.toNat_natCast]
 have XH := hidden X
 have MH := hidden hmm
 have DH := hidden hdd
 have hS : w.drew.cell? ⟨B, 3, none⟩ = some (.slice (some ⟨g, 0, none⟩) ms.length cm) /\ w.drew.cell? ⟨B, 4, none⟩ = some (.int .i64 (m : Int)) /\ w.drew.cell? ⟨B, 1, none⟩ = some (.int .i64 x.n) /\ w.drew.cell? ⟨B, 2, none⟩ = some (.int .i64 x.s) := ⟨k3, k4, k1, k2⟩
 have i1 : (0 : Int) <= (m : Int) := by omega
 have i3 : (m : Int) < (ms.length : Int) := by omega
 clear X X0 hmm hdd hM hlo hg k0 k5 k6 k7 k8 k9 k10 k11 k12
 go_enter Tryz.func46, Tryz.ntmps46
 go_wp2_with fail
 refine Upto.start (S := fun w' => w'.cell? ⟨B, 3, none⟩ = some (.slice (some ⟨g, 0, none⟩) ms.length cm) /\ w'.cell? ⟨B, 4, none⟩ = some (.int .i64 (m : Int)) /\ w'.cell? ⟨B, 1, none⟩ = some (.int .i64 x.n) /\ w'.cell? ⟨B, 2, none⟩ = some (.int .i64 x.s)) (k := 15) (by kernel_rfl) ?_
 refine Upto.t 0 hS ?_
 refine Upto.t 1 hS ?_
 refine Upto.t 2 hS ?_
 refine Upto.t 3 hS ?_
 refine Upto.t 4 hS ?_
 refine Upto.t 5 hS ?_
 refine Upto.t 6 hS ?_
 refine Upto.t 7 hS ?_
 refine Upto.t 8 hS ?_
 refine Upto.t 9 hS ?_
 refine Upto.t 10 hS ?_
 refine Upto.t 11 hS ?_
 refine Upto.one (i := 12) (by kernel_rfl) rfl (fun K hK => ?_)
 go_simp
 refine (l6Secs_any _ x.n x.s ⟨g3, g4⟩).mono ?_
 rintro e w1 ⟨rfl, b1'⟩
 have b1 : Below w.heap.size w w1 := (Below.refl w.heap.size w).drew.trans b1'
 have hS1 : w1.cell? ⟨B, 3, none⟩ = some (.slice (some ⟨g, 0, none⟩) ms.length cm) /\ w1.cell? ⟨B, 4, none⟩ = some (.int .i64 (m : Int)) /\ w1.cell? ⟨B, 1, none⟩ = some (.int .i64 x.n) /\ w1.cell? ⟨B, 2, none⟩ = some (.int .i64 x.s) := ⟨(b1.cell (p := ⟨B, 3, none⟩) zB).trans k3, (b1.cell (p := ⟨B, 4, none⟩) zB).trans k4, (b1.cell (p := ⟨B, 1, none⟩) zB).trans k1, (b1.cell (p := ⟨B, 2, none⟩) zB).trans k2⟩
 have z1 := b1.size
 have B1 := hidden b1
 clear b1 b1'
 go_wp2_with fail
 refine hK.out _ _ (fun _ => hS1) ?_
 clear hK K
 refine Upto.one (i := 13) (by kernel_rfl) rfl (fun K hK => ?_)
 go_simp
 refine (specMemNew_any _ (6 + x.s)).mono ?_
 rintro e w2 ⟨a0, c0, rfl, o2, b2⟩
 have b02 := Below.andThen B1.out b2
 have z2 := b2.size
 have om : (tMem 109).Own w2 w.heap.size w2.heap.size [.slice a0 (newSS (6 + x.s)).length c0, .slice none 0 0, .bool false, .slice none 0 0] (spareM x.s) := mem_own3 o2 ((nil_mine (t := tWr) (E := 109) w2).own (lo := w2.heap.size) (hi := w2.heap.size) (by simp)) ((nil_mine (t := intTy) (E := 3) w2).own (lo := w2.heap.size) (hi := w2.heap.size) (by simp)) (.inl (Nat.le_refl _)) (.inl (Nat.le_refl _)) (.inl (Nat.le_refl _)) ⟨z1, Nat.le_refl _⟩ ⟨by omega, Nat.le_refl _⟩ ⟨by omega, Nat.le_refl _⟩
 obtain ⟨fpx, mx, rx⟩ := om.mine
 obtain ⟨cOld, fz, hgm, fm9, hA9, hMv9⟩ := arr_store (m := m) XH.out MH.out DH.out hr r1 r2 b02 (by omega) mx (fun b hb => (rx b hb).1)
 obtain ⟨o0, t0⟩ := cOld 0 (by omega)
 obtain ⟨o1, t1⟩ := cOld 1 (by omega)
 obtain ⟨o2', t2⟩ := cOld 2 (by omega)
 obtain ⟨o3, t3⟩ := cOld 3 (by omega)
 rw [Nat.add_zero] at t0
 have HA := hidden hA9
 have HMV := hidden hMv9
 have hS2 : w2.cell? ⟨B, 3, none⟩ = some (.slice (some ⟨g, 0, none⟩) ms.length cm) /\ w2.cell? ⟨B, 4, none⟩ = some (.int .i64 (m : Int)) /\ w2.cell? ⟨B, 1, none⟩ = some (.int .i64 x.n) /\ w2.cell? ⟨B, 2, none⟩ = some (.int .i64 x.s) := ⟨(b02.cell (p := ⟨B, 3, none⟩) zB).trans k3, (b02.cell (p := ⟨B, 4, none⟩) zB).trans k4, (b02.cell (p := ⟨B, 1, none⟩) zB).trans k1, (b02.cell (p := ⟨B, 2, none⟩) zB).trans k2⟩
 have gB : ¬ g = B := fun e => r1 (e ▸ hgm)
 unfold put4 at HA HMV
 clear k3 k4 k1 k2 o2 om b2 b02 mx rx cOld hA9 hMv9 XH MH DH hS1 B1
 go_wp2_with fail
 refine hK.out _ _ (fun _ => hS2) ?_
 clear hK K
 refine Upto.t 14 hS2 ?_
 refine Upto.one (i := 15) (by kernel_rfl) rfl (fun K hK => ?_)
 go_simp
 refine hK.out _ _ (fun h => absurd rfl h) ?_
 clear hK K
 refine Upto.done (by kernel_rfl) ?_ _
 clear hS hS2 t0 t1 t2 t3 fz
 generalize (((w2.setCell ⟨g, m * 4, none⟩ (.slice a0 (newSS (6 + x.s)).length c0)).setCell ⟨g, m * 4 + 1, none⟩ (.slice none 0 0)).setCell ⟨g, m * 4 + 2, none⟩ (.bool false)).setCell ⟨g, m * 4 + 3, none⟩ (.slice none 0 0) = w3 at HA HMV ⊢
 obtain ⟨c4, c5, c8, c11, c12, fz⟩ := arr_cells HA.out
 generalize ms.set m (spareM x.s) = ns at HA HSA HOK
 have HA4 := hidden (arr_built0 HA.out 0)
 have MV4 := hidden (HMV.out.trans (Moved.set (B := B) (j := 5) (fm := fm9) (w := w3) (.int .i64 0)))
 have HMK := hidden (l7Mark_any _ B {x with built := 0} ns ds fm9 fd HA4.out hf HOK.out hg0 hg1)
 go_wp2_with fail
 refine HMK.out.mono ?_
 rintro e w5 ⟨rfl, fm5, A5, M5⟩
 have MV5 := hidden (MV4.out.trans M5)
 clear M5 HMK HA4 MV4 HA HMV c4 c5 c8 c11 c12 fz
 generalize markS ({x with built := 0}, ns) = st at A5 HSA
 obtain ⟨y, os⟩ := st
 dsimp only at A5
 have HA5 := hidden A5
 obtain ⟨_, _, _, d11, _, _⟩ := arr_cells A5
 clear A5
 cases hdn : y.down
 . have HF : Hid (Ending.returned (Value.int .i64 0) = .returned (.int .i64 (dn12 (spareA (x, ms)).1.down)) /\ ∃ fm', ArrAt w5 B (spareA (x, ms)).1 (spareA (x, ms)).2 ds fm' fd /\ Moved B fm w fm' w5) := by
    unfold Hid
    rw [HSA.out]
    refine ⟨?_, fm5, HA5.out, MV5.out⟩
    show _ = Ending.returned (.int .i64 (dn12 y.down))
    rw [hdn]
    rfl
   rw [hdn] at d11
   clear hdn
   go_wp2
   go_ret
   exact ret_two HF.out
 have HF : Hid (Ending.returned (Value.int .i64 6) = .returned (.int .i64 (dn12 (spareA (x, ms)).1.down)) /\ ∃ fm', ArrAt w5 B (spareA (x, ms)).1 (spareA (x, ms)).2 ds fm' fd /\ Moved B fm w fm' w5) := by
  unfold Hid
  rw [HSA.out]
  refine ⟨?_, fm5, HA5.out, MV5.out⟩
  show _ = Ending.returned (.int .i64 (dn12 y.down))
  rw [hdn]
  rfl
 rw [hdn] at d11
 clear hdn
 go_wp2
 go_ret
 exact ret_two HF.out

def lostF (x : ArrN) (ms : List MemD) : Bool := decide (x.lost ≠ -1) && (ms.getD x.lost.toNat memZ).2.2.1
def lostT (x : ArrN) (ms : List MemD) : Bool := decide (x.lost ≠ -1) && !(ms.getD x.lost.toNat memZ).2.2.1
def mkC (x : ArrN) : Int := if x.broken = true then 5 else if 59990 <= x.gen then 7 else 0
def spareK (x : ArrN) (ms : List MemD) (ds : List (Int × List Int)) : Int := if ask8 x ms ds = 0 then (if lostF x ms = true then mkC x else 2) else ask8 x ms ds
def adoptK (x : ArrN) (ms : List MemD) (ds : List (Int × List Int)) : Int := if ask8 x ms ds = 0 then (if (lostT x ms && decide (x.s <= x.built)) = true then mkC x else 2) else ask8 x ms ds
theorem arr_lost {x : ArrN} {ms : List MemD} {ds : List (Int × List Int)} (ha : arrB x ms ds = true) : -1 <= x.lost /\ x.lost < (ms.length : Int) := by
 obtain ⟨_, _, p3, _, p5, _⟩ := arr_split.1 ha
 have h1 := (mems_iff.1 p3).2
 unfold lostB6 at p5
 simp only [Bool.and_eq_true, inB_iff] at p5
 have h2 := p5.1
 omega
theorem lost_none {x : ArrN} {ms : List MemD} (h : x.lost = -1) : lostF x ms = false /\ lostT x ms = false := by unfold lostF lostT; simp [h]
theorem lost_at {x : ArrN} {ms : List MemD} {d : MemD} (h : x.lost ≠ -1) (hd : ms[x.lost.toNat]? = some d) : lostF x ms = d.2.2.1 /\ lostT x ms = !d.2.2.1 := by unfold lostF lostT; rw [getD_at hd]; simp [h]
theorem mk_good {x : ArrN} (h : mkC x = 0) : x.broken = false /\ x.gen < 59990 := by
 unfold mkC at h
 cases hb : x.broken
 . rw [hb] at h
   by_cases hg : 59990 <= x.gen
   . simp [hg] at h
   exact ⟨rfl, by omega⟩
 rw [hb] at h; simp at h
theorem spare_zero {x : ArrN} {ms : List MemD} {ds : List (Int × List Int)} (h : spareK x ms ds = 0) : arrB x ms ds = true /\ x.down = false /\ lostF x ms = true /\ x.broken = false /\ x.gen < 59990 := by
 unfold spareK at h
 by_cases h0 : ask8 x ms ds = 0
 . rw [if_pos h0] at h
   cases hl : lostF x ms
   . rw [hl] at h; simp at h
   rw [hl, if_pos rfl] at h
   exact ⟨(ask_good h0).1, (ask_good h0).2, rfl, mk_good h⟩
 rw [if_neg h0] at h; exact absurd h h0
theorem adopt_zero {x : ArrN} {ms : List MemD} {ds : List (Int × List Int)} (h : adoptK x ms ds = 0) : arrB x ms ds = true /\ x.down = false /\ lostT x ms = true /\ x.s <= x.built /\ x.broken = false /\ x.gen < 59990 := by
 unfold adoptK at h
 by_cases h0 : ask8 x ms ds = 0
 . rw [if_pos h0] at h
   cases hl : (lostT x ms && decide (x.s <= x.built))
   . rw [hl] at h; simp at h
   rw [hl, if_pos rfl] at h
   simp only [Bool.and_eq_true, decide_eq_true_eq] at hl
   exact ⟨(ask_good h0).1, (ask_good h0).2, hl.1, hl.2, mk_good h⟩
 rw [if_neg h0] at h; exact absurd h h0
theorem lost_pos {x : ArrN} {ms : List MemD} (h : lostF x ms = true ∨ lostT x ms = true) : x.lost ≠ -1 := by
 rcases h with h | h
 . unfold lostF at h; simp only [Bool.and_eq_true, decide_eq_true_eq] at h; exact h.1
 unfold lostT at h; simp only [Bool.and_eq_true, decide_eq_true_eq] at h; exact h.1
def BldAt (w : World) (B : Nat) (x : ArrN) (ms : List MemD) (ds : List (Int × List Int)) (fm fd : List Nat) : Prop :=
 ∃ (bm bd : Option Addr) (cm cd : Nat), Box w B 97 (arrC x (.slice bm ms.length cm) (.slice bd ds.length cd)) /\ (tMemS 109 51).Mine w [.slice bm ms.length cm] ms fm /\ (tWrS 82).Mine w [.slice bd ds.length cd] ds fd /\ (∀ b ∈ fm, b ∉ fd) /\ B ∉ fm /\ B ∉ fd
theorem BldAt.turned {w w' : World} {B : Nat} {x : ArrN} {ms : List MemD} {ds : List (Int × List Int)} {fm fd : List Nat} (h : BldAt w B x ms ds fm fd) (hb : Below w.heap.size w w') : BldAt w' B x ms ds fm fd := by
 obtain ⟨bm, bd, cm, cd, X, hm, hd, hr, r1, r2⟩ := h
 exact ⟨bm, bd, cm, cd, X.below hb X.lt, hm.below hb, hd.below hb, hr, r1, r2⟩
def Stp (w : World) (B : Nat) (fm fd : List Nat) (ds : List (Int × List Int)) (q : ArrN × List MemD) (c : Int) (e : Ending) (w' : World) : Prop :=
 e = .returned (.int .i64 c) /\ ∃ fm' fd', BldAt w' B q.1 q.2 ds fm' fd' /\ Turned [B] w w' /\ (∀ b ∈ fm', b ∈ fm ∨ w.heap.size <= b) /\ ∀ b ∈ fd', b ∈ fd ∨ w.heap.size <= b
def turnQ (code : Int) (q p : ArrN × List MemD) : ArrN × List MemD := if code = 0 then q else p
def turnC (code : Int) (q : ArrN × List MemD) : Int := if code = 0 then dn12 q.1.down else code

abbrev DOp := Nat × Option (Option (Int × List Int))
def supM (d : MemD) (u : Sup) : MemD := (d.1, wsCS d.1 d.2.1 d.2.2.1 d.2.2.2 u, d.2.2.1, wsBS d.1 d.2.1 d.2.2.1 d.2.2.2 u)
def opF (o : DOp) (x : ArrN) : MemD -> MemD :=
 match o.2 with
 | none => flM
 | some none => fun d => supM d (supA x o.1)
 | some (some p) => fun d => wrM d p.1 p.2
def runS (q : ArrN × List MemD) (ops : List DOp) : ArrN × List MemD := ops.foldl (fun q o => doS q o.1 (opF o q.1)) q

theorem opX_down {x : ArrN} (h : x.down = true) : opX x = x := by unfold opX; rw [if_pos h]
theorem opB_down {x : ArrN} (h : x.down = true) : opB x = false := by unfold opB; simp [h]
theorem opX_no {x : ArrN} (h : opB x = false) : (opX x).down = true := by
 unfold opB at h
 unfold opX
 by_cases hd : x.down = true
 . rw [if_pos hd]; exact hd
 rw [if_neg hd]
 simp at h
 rw [if_pos (h (by simpa using hd))]
theorem opX_yes {x : ArrN} (h : opB x = true) : (opX x).down = false := by
 unfold opB at h
 simp at h
 unfold opX
 rw [if_neg (by simp [h.1]), if_neg h.2]
 split
 . exact h.1
 exact h.1
theorem doS_down {q : ArrN × List MemD} (i : Nat) (f : MemD -> MemD) (h : q.1.down = true) : doS q i f = q := by
 unfold doS
 rw [opB_down h, opX_down h]
 split
 . rfl
 rfl
theorem runS_down {q : ArrN × List MemD} (h : q.1.down = true) : ∀ ops : List DOp, runS q ops = q
 | [] => rfl
 | o :: ops => by
  unfold runS
  rw [List.foldl_cons, doS_down _ _ h]
  exact runS_down h ops
theorem runS_app (q : ArrN × List MemD) (a b : List DOp) : runS q (a ++ b) = runS (runS q a) b := by unfold runS; rw [List.foldl_append]
theorem runS_one (q : ArrN × List MemD) (o : DOp) : runS q [o] = doS q o.1 (opF o q.1) := rfl
theorem runS_next {q : ArrN × List MemD} {ops : List DOp} {j : Nat} {o : DOp} (h : ops[j]? = some o) : runS q (ops.take (j + 1)) = doS (runS q (ops.take j)) o.1 (opF o (runS q (ops.take j)).1) := by
 rw [List.take_add_one, h, runS_app]
 rfl
theorem runS_end {q : ArrN × List MemD} {ops : List DOp} {j : Nat} (h : (runS q (ops.take j)).1.down = true) : runS q ops = runS q (ops.take j) := by
 have := runS_app q (ops.take j) (ops.drop j)
 rw [List.take_append_drop, runS_down h] at this
 exact this
theorem supM_ok (u : Sup) (d : MemD) (h : memB d.1 d.2.1 d.2.2.2 = true) : memB (supM d u).1 (supM d u).2.1 (supM d u).2.2.2 = true := by
 unfold supM wsCS wsBS
 dsimp only
 by_cases hu : supB u = true
 . rw [if_pos hu, if_pos hu]
   exact wrM_ok (u.gen % 2) (putD u) d h
 rw [if_neg hu, if_neg hu]
 exact h
theorem supM_put {u : Sup} (h : supB u = true) (d : MemD) : supM d u = wrM d (u.gen % 2) (putD u) := by
 unfold supM wsCS wsBS wrM
 rw [if_pos h, if_pos h]
theorem opF_ok (o : DOp) (x : ArrN) (d : MemD) (h : memB d.1 d.2.1 d.2.2.2 = true) : memB (opF o x d).1 (opF o x d).2.1 (opF o x d).2.2.2 = true := by
 obtain ⟨i, k⟩ := o
 rcases k with _ | _ | ⟨n, s⟩
 . exact flM_ok d h
 . exact supM_ok _ d h
 exact wrM_ok n s d h
theorem opF_flag (o : DOp) (x : ArrN) (d : MemD) : (opF o x d).2.2.1 = d.2.2.1 := by
 obtain ⟨i, k⟩ := o
 rcases k with _ | _ | ⟨n, s⟩ <;> rfl
theorem runS_keeps {q : ArrN × List MemD} (h : MsOk q.2) (hf : q.1.fuse <= 1000) : ∀ ops : List DOp, MsOk (runS q ops).2 /\ SameN q.1 (runS q ops).1 /\ (runS q ops).2.length = q.2.length := by
 intro ops
 induction ops generalizing q with
 | nil => exact ⟨h, SameN.refl hf, rfl⟩
 | cons o ops ih =>
  have h1 := doS_same (q := q) o.1 (opF o q.1) hf
  obtain ⟨a, b, c⟩ := ih (q := doS q o.1 (opF o q.1)) (doS_ok h (opF_ok o q.1)) h1.2.2.2.2.2.2.2.2.2.1
  exact ⟨a, h1.trans b, c.trans (doS_len _ _ _)⟩
theorem opF_opX (o : DOp) (x : ArrN) : opF o (opX x) = opF o x := by
 obtain ⟨i, k⟩ := o
 rcases k with _ | _ | ⟨n, s⟩
 . rfl
 . have e : supA (opX x) i = supA x i := by
    unfold opX
    split
    . rfl
    split
    . rfl
    split <;> rfl
   show (fun d => supM d (supA (opX x) i)) = fun d => supM d (supA x i)
   rw [e]
 rfl
def flagAt (ms : List MemD) (k : Nat) : Bool := (ms.getD k memZ).2.2.1
theorem flag_set {ms : List MemD} {i : Nat} {d : MemD} (h : d.2.2.1 = flagAt ms i) (k : Nat) : flagAt (ms.set i d) k = flagAt ms k := by
 unfold flagAt
 by_cases hk : k = i
 . subst hk
   by_cases hl : k < ms.length
   . rw [List.getD_eq_getElem?_getD, List.getElem?_set_self hl]
     exact h
   rw [List.set_eq_of_length_le (by omega)]
 rw [List.getD_eq_getElem?_getD, List.getD_eq_getElem?_getD, List.getElem?_set_ne (fun e => hk e.symm)]
theorem doS_flag (q : ArrN × List MemD) (i : Nat) {f : MemD -> MemD} (hf : ∀ d, (f d).2.2.1 = d.2.2.1) (k : Nat) : flagAt (doS q i f).2 k = flagAt q.2 k := by
 unfold doS
 split
 . rfl
 split
 . exact flag_set (hf _) k
 rfl
theorem runS_flag (q : ArrN × List MemD) (ops : List DOp) (k : Nat) : flagAt (runS q ops).2 k = flagAt q.2 k := by
 induction ops generalizing q with
 | nil => rfl
 | cons o ops ih => exact (ih (doS q o.1 (opF o q.1))).trans (doS_flag q o.1 (opF_flag o q.1) k)
def opsL (K : Nat -> DOp) (ms : List MemD) (j : Nat) : List DOp := ((List.range j).filter fun i => !flagAt ms i).map K
theorem opsL_succ (K : Nat -> DOp) (ms : List MemD) (j : Nat) : opsL K ms (j + 1) = opsL K ms j ++ (if flagAt ms j = true then [] else [K j]) := by
 unfold opsL
 rw [List.range_succ, List.filter_append, List.map_append]
 cases h : flagAt ms j <;> simp [h]
theorem opsL_len (K : Nat -> DOp) (ms : List MemD) (j : Nat) : (opsL K ms j).length <= j := by
 unfold opsL
 rw [List.length_map]
 exact Nat.le_trans (List.length_filter_le _ _) (by rw [List.length_range]; exact Nat.le_refl _)
theorem opsL_mem {K : Nat -> DOp} {ms : List MemD} {j : Nat} {o : DOp} (h : o ∈ opsL K ms j) : ∃ i, i < j /\ flagAt ms i = false /\ o = K i := by
 unfold opsL at h
 obtain ⟨i, hi, rfl⟩ := List.mem_map.1 h
 obtain ⟨h1, h2⟩ := List.mem_filter.1 hi
 exact ⟨i, List.mem_range.1 h1, by simpa using h2, rfl⟩
theorem run_list {K : Nat -> DOp} (hK : ∀ i, (K i).1 = i) (q : ArrN × List MemD) : ∀ j, runS q (opsL K q.2 j) = (List.range j).foldl (fun q i => doS q i (opF (K i) q.1)) q
 | 0 => rfl
 | j + 1 => by
  rw [opsL_succ, runS_app, List.range_succ, List.foldl_append, ← run_list hK q j]
  cases h : flagAt q.2 j
  . rw [if_neg (by simp), runS_one, hK]
    rfl
  rw [if_pos rfl]
  have h2 : flagAt (runS q (opsL K q.2 j)).2 j = true := by rw [runS_flag]; exact h
  show runS q (opsL K q.2 j) = doS (runS q (opsL K q.2 j)) j _
  unfold flagAt at h2
  unfold doS
  rw [if_pos h2]
def flushK (i : Nat) : DOp := (i, none)
def supK (i : Nat) : DOp := (i, some none)
def wrK (n : Int) (s : List Int) (i : Nat) : DOp := (i, some (some (n, s)))
theorem run_sync (q : ArrN × List MemD) (j : Nat) : runS q (opsL flushK q.2 j) = syncS q j := run_list (fun _ => rfl) q j
theorem run_sups {q : ArrN × List MemD} (h : MsOk q.2) (hf : q.1.fuse <= 1000) (hu : ∀ i : Nat, i < q.2.length -> supB (supA q.1 i) = true) : ∀ j, j <= q.2.length -> runS q (opsL supK q.2 j) = supsS q j
 | 0, _ => rfl
 | j + 1, hj => by
  have ih := run_sups h hf hu j (by omega)
  have hs := (supsS_keeps h hf j).2.1
  rw [run_list (fun _ => rfl)] at ih ⊢
  rw [List.range_succ, List.foldl_append, ih, supsS_succ]
  have e : supA (supsS q j).1 j = supA q.1 j := by
   obtain ⟨a1, a2, a3, a4, a5, a6, a7, a8, a9, _⟩ := hs
   unfold supA
   rw [a1, a2, a3, a4, a5, a7, a8]
  have hu2 : supB (supA (supsS q j).1 j) = true := by rw [e]; exact hu j (by omega)
  show doS (supsS q j) j (fun d => supM d (supA (supsS q j).1 j)) = putS _ _ _ _
  unfold putS
  congr 1
  funext d
  exact supM_put hu2 d

end Go.Proofs.YtechckninoilhaaGreat
