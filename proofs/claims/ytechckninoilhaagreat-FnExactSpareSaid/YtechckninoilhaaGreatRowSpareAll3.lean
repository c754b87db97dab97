/-
 The walks of the program's looks at an array's entries, at its records, and at the array as a whole. Condition: it weighs at most 2097152.
-/
import Derived.Test.YtechckninoilhaaGreatHeld
import Derived.Test.YtechckninoilhaaGreatRowSpareAll4
import Derived.Test.YtechckninoilhaaGreatWalkPutSuper
import Derived.Test.YtechckninoilhaaGreatWalkFail
import Derived.Test.YtechckninoilhaaGreatCode8
import Derived.Test.YtechckninoilhaaGreatOut8
import Derived.Test.YtechckninoilhaaGreatArr7
import Derived.Test.YtechckninoilhaaGreatGrow
import Derived.Recover
import Derived.Test.YtechckninoilhaaGreatWalkArr
import Derived.Test.YtechckninoilhaaGreatBox
import Derived.Deep.Cut
import Derived.Test.YtechckninoilhaaGreatWalkGeo
import Derived.Test.YtechckninoilhaaGreatWalkIn
import Derived.Test.YtechckninoilhaaGreatWalkArrOk2
import Derived.Test.YtechckninoilhaaGreatRowSpareAll5
import Derived.Test.YtechckninoilhaaGreatWalkSuper

set_option maxRecDepth 100000
set_option maxHeartbeats 8000000
set_option linter.unusedSimpArgs false

namespace Go.Proofs.YtechckninoilhaaGreat
open Go.RowKit

theorem l7Sync_any (w : World) (B : Nat) (x : ArrN) (ms : List MemD) (ds : List (Int × List Int)) (fm fd : List Nat) (h : ArrAt w B x ms ds fm fd) (hf : x.fuse <= 1000) (hM : MsOk ms) :
 Calls Tryz.prog 106 #[.pointer (some ⟨B, 0, none⟩)] w fun e w' => e = .returned (.tuple #[]) /\ ∃ fm', ArrAt w' B (syncS (x, ms) ms.length).1 (syncS (x, ms) ms.length).2 ds fm' fd /\ Moved B fm w fm' w' := by
 have hkp := fun j => syncS_keeps (q := (x, ms)) hM hf j
 have HK := hidden hkp
 clear hkp
 have H0 := hidden h
 obtain ⟨bm0, bd0, cm0, cd0, X0, hm0, _⟩ := h
 have hmx := (row_length hm0.rd).2
 clear X0 hm0
 go_enter Tryz.func106, Tryz.ntmps106
 go_wp2
 go_loopw [2] (fun i wr => ∃ (j : Nat) (fm1 : List Nat), j <= ms.length /\ i = .int .i64 j /\ ArrAt wr B (syncS (x, ms) j).1 (syncS (x, ms) j).2 ds fm1 fd /\ Moved B fm w fm1 wr) (fun i _ => ms.length - (intOf i).toNat)
 case atStart => exact ⟨0, fm, Nat.zero_le _, rfl, H0.out, Moved.refl _ _ _⟩
 obtain ⟨j, fm1, hj, rfl, hA, hMv⟩ := hrel
 obtain ⟨hMj, hsj, hlj⟩ := HK.out j
 have hfj := hsj.2.2.2.2.2.2.2.2.2.1
 have HS := hidden (syncS_succ (x, ms) j)
 generalize hst : syncS (x, ms) j = st at hA hMj hsj hlj hfj HS
 have HST := hidden hst
 clear hst
 obtain ⟨y, ns⟩ := st
 dsimp only at hA hMj hsj hlj hfj
 have HA := hidden hA
 obtain ⟨bm, bd, cm, cd, X, hmm, hdd, hr, r1, r2⟩ := hA
 rw [hlj] at X hmm
 have X0 := X
 unfold arrC at X0
 obtain ⟨k0, k1, k2, k3, k4, k5, k6, k7, k8, k9, k10, k11, k12⟩ := X0.cells13
 by_cases hjn : j < ms.length
 . have i2 : (j : Int) < (ms.length : Int) := by omega
   have i1 : (0 : Int) <= (j : Int) := by omega
   obtain ⟨g, rfl⟩ := row_head hmm (by omega)
   have hdj : ns[j]? = some (ns[j]'(by omega)) := List.getElem?_eq_getElem (by omega)
   generalize ns[j]'(by omega) = d at hdj
   obtain ⟨hgl, a0, a1, a3, c0, c1, c3, ss, cs, f, bs, rfl, q0, q1, q2, q3, _, _, _⟩ := disk_at hmm hdj
   have MV := hidden hMv
   clear X X0 hmm hdd hMv
   cases f
   . go_wp2_with fail
     refine (l7Op_any _ B y ns ds fm1 fd HA.out hfj).mono ?_
     rintro e w1 ⟨rfl, hA1, hMv1⟩
     clear k0 k1 k2 k3 k4 k5 k6 k7 k8 k9 k10 k11 k12 q0 q1 q2 q3 HA
     cases ho : opB y
     . have HP : Hid (syncS (x, ms) (j + 1) = (opX y, ns)) := HS.out.trans (doS_no hdj rfl ho)
       have HB := hidden (MV.out.trans hMv1)
       have HA1 := hidden hA1
       clear hA1 hMv1
       go_wp2
       go_roundw
       case rel => exact ⟨j + 1, fm1, by omega, by go_num, by rw [HP.out]; exact HA1.out, HB.out⟩
       case measure => simp [intOf]; omega
     have HP : Hid (syncS (x, ms) (j + 1) = (opX y, ns.set j (flM (ss, cs, false, bs)))) := HS.out.trans (doS_yes hdj rfl ho)
     obtain ⟨bm, bd, cm, cd, X, hmm, hdd, hr, r1, r2⟩ := hA1
     obtain ⟨g, rfl⟩ := row_head hmm (by omega)
     obtain ⟨hgl, a0, a1, a3, c0, c1, c3, ss, cs, f, bs, hde, q0, q1, q2, q3, p0, p1, p3⟩ := disk_at hmm hdj
     simp only [Prod.mk.injEq] at hde
     obtain ⟨rfl, rfl, rfl, rfl⟩ := hde
     have X0 := X
     unfold arrC at X0
     have x3 := X0.cells13.2.2.2.1
     have hwt := memB_light (hMj j _ hdj) false
     dsimp only at hwt
     have zB := X.lt
     have XH := hidden X
     have MH := hidden hmm
     have DH := hidden hdd
     have MV1 := hidden hMv1
     have R0 := hidden p0
     have R1 := hidden p1
     have R3 := hidden p3
     have hS : w1.drew.cell? ⟨B, 3, none⟩ = some (.slice (some ⟨g, 0, none⟩) ns.length cm) /\ w1.drew.cell? ⟨g, j * 4, none⟩ = some (.slice a0 ss.length c0) /\ w1.drew.cell? ⟨g, j * 4 + 1, none⟩ = some (.slice a1 cs.length c1) /\ w1.drew.cell? ⟨g, j * 4 + 2, none⟩ = some (.bool false) /\ w1.drew.cell? ⟨g, j * 4 + 3, none⟩ = some (.slice a3 bs.length c3) := ⟨x3, q0, q1, q2, q3⟩
     have i3 : (j : Int) < (ns.length : Int) := by omega
     clear X X0 hmm hdd hMv1 p0 p1 p3
     go_wp2_with fail
     refine Upto.start (S := fun w' => w'.cell? ⟨B, 3, none⟩ = some (.slice (some ⟨g, 0, none⟩) ns.length cm) /\ w'.cell? ⟨g, j * 4, none⟩ = some (.slice a0 ss.length c0) /\ w'.cell? ⟨g, j * 4 + 1, none⟩ = some (.slice a1 cs.length c1) /\ w'.cell? ⟨g, j * 4 + 2, none⟩ = some (.bool false) /\ w'.cell? ⟨g, j * 4 + 3, none⟩ = some (.slice a3 bs.length c3)) (k := 14) (by kernel_rfl) ?_
     refine Upto.t 0 hS ?_
     refine Upto.t 1 hS ?_
     refine Upto.t 2 hS ?_
     refine Upto.t 3 hS ?_
     refine Upto.t 4 hS ?_
     refine Upto.t 5 hS ?_
     refine Upto.t 6 hS ?_
     refine Upto.t 7 hS ?_
     refine Upto.t 8 hS ?_
     refine Upto.t 9 hS ?_
     refine Upto.t 10 hS ?_
     refine Upto.t 11 hS ?_
     refine Upto.one (i := 12) (by kernel_rfl) rfl (fun K hK => ?_)
     go_simp
     refine (specFlushMem_any _ 109 _ _ _ _ _ _ _ _ _ ss cs false bs R0.out.drew R1.out.drew R3.out.drew (by omega)).mono ?_
     rintro e w2 ⟨u0, u1, u3, rfl, o2, b2'⟩
     have b2 : Below w1.heap.size w1 w2 := (Below.refl w1.heap.size w1).drew.trans b2'
     have o2b : (tMem 109).Own w2 w1.heap.size w2.heap.size [u0, u1, .bool false, u3] _ := o2
     obtain ⟨d0, l0, f0, d1, l1, f1, d3, l3, f3, hv0, hv1, hv3⟩ := mem_slices o2b
     subst hv0 hv1 hv3
     obtain ⟨fpx, mx, rx⟩ := o2b.mine
     obtain ⟨cOld, fz, hgm, fm9, hA9, hMv9⟩ := arr_store (m := j) XH.out MH.out DH.out hr r1 r2 b2 (by omega) mx (fun b hb => (rx b hb).1)
     obtain ⟨o0, t0⟩ := cOld 0 (by omega)
     obtain ⟨o1, t1⟩ := cOld 1 (by omega)
     obtain ⟨o2', t2⟩ := cOld 2 (by omega)
     obtain ⟨o3, t3⟩ := cOld 3 (by omega)
     rw [Nat.add_zero] at t0
     have HA := hidden hA9
     have HMV := hidden ((MV.out.trans MV1.out).trans hMv9)
     have hS2 : w2.cell? ⟨B, 3, none⟩ = some (.slice (some ⟨g, 0, none⟩) ns.length cm) /\ w2.cell? ⟨g, j * 4, none⟩ = some (.slice a0 ss.length c0) /\ w2.cell? ⟨g, j * 4 + 1, none⟩ = some (.slice a1 cs.length c1) /\ w2.cell? ⟨g, j * 4 + 2, none⟩ = some (.bool false) /\ w2.cell? ⟨g, j * 4 + 3, none⟩ = some (.slice a3 bs.length c3) := ⟨(b2.cell (p := ⟨B, 3, none⟩) zB).trans x3, (b2.cell (p := ⟨g, j * 4, none⟩) hgl).trans q0, (b2.cell (p := ⟨g, j * 4 + 1, none⟩) hgl).trans q1, (b2.cell (p := ⟨g, j * 4 + 2, none⟩) hgl).trans q2, (b2.cell (p := ⟨g, j * 4 + 3, none⟩) hgl).trans q3⟩
     have gB : ¬ g = B := fun e => r1 (e ▸ hgm)
     unfold put4 at HA HMV
     clear x3 q0 q1 q2 q3 o2 o2b b2 b2' mx rx cOld hA9 hMv9 XH MH DH MV MV1 R0 R1 R3 hwt
     go_wp2_with fail
     refine hK.out _ _ (fun _ => hS2) ?_
     clear hK K
     refine Upto.t 13 hS2 ?_
     refine Upto.one (i := 14) (by kernel_rfl) rfl (fun K hK => ?_)
     go_simp
     refine hK.out _ _ (fun h => absurd rfl h) ?_
     clear hK K
     refine Upto.done (by kernel_rfl) ?_ _
     clear hS hS2 t0 t1 t2 t3 fz
     go_wp2
     go_roundw
     case rel => exact ⟨j + 1, fm9, by omega, by go_num, by rw [HP.out]; exact HA.out, HMV.out⟩
     case measure => simp [intOf]; omega
   have HP : Hid (syncS (x, ms) (j + 1) = (y, ns)) := HS.out.trans (doS_failed hdj rfl)
   go_wp2
   go_roundw
   case rel => exact ⟨j + 1, fm1, by omega, by go_num, by rw [HP.out]; exact HA.out, MV.out⟩
   case measure => simp [intOf]; omega
 have ej : j = ms.length := by omega
 subst ej
 have HMV := hidden hMv
 clear X X0 hmm hdd hMv
 go_wp2
 refine bodyPost_end (v := .tuple #[]) (results_none rfl _ _ _) rfl ?_
 exact ⟨rfl, fm1, by rw [HST.out]; exact HA.out, HMV.out⟩

theorem putD_len9 (x : Sup) : (putD x).length <= 9 := by unfold putD; split <;> simp

theorem l7Mark_any (w : World) (B : Nat) (x : ArrN) (ms : List MemD) (ds : List (Int × List Int)) (fm fd : List Nat) (h : ArrAt w B x ms ds fm fd) (hf : x.fuse <= 1000) (hM : MsOk ms) (hg0 : 0 <= x.gen) (hg1 : x.gen <= 60000) :
 Calls Tryz.prog 64 #[.pointer (some ⟨B, 0, none⟩)] w fun e w' => e = .returned (.tuple #[]) /\ ∃ fm', ArrAt w' B (markS (x, ms)).1 (markS (x, ms)).2 ds fm' fd /\ Moved B fm w fm' w' := by
 obtain ⟨x1, hx1⟩ : ∃ x1 : ArrN, x1 = {x with gen := x.gen + 1} := ⟨_, rfl⟩
 have hf1 : x1.fuse <= 1000 := by rw [hx1]; exact hf
 have hgen : x1.gen = x.gen + 1 := by rw [hx1]
 have hgw : IntKind.i64.wrap (x.gen + 1) = x.gen + 1 := IntWalk.i64_in _ (by omega)
 have HK : Hid (∀ j, _) := fun j => supsS_keeps (q := (x1, ms)) hM hf1 j
 have HMK : Hid (markS (x, ms) = syncS (supsS (x1, ms) ms.length) ms.length) := by rw [hx1]; rfl
 obtain ⟨bm0, bd0, cm0, cd0, X0, hm0, hd0, hr0, r10, r20⟩ := h
 have hmx := (row_length hm0.rd).2
 have A1 : Hid (ArrAt (w.setCell ⟨B, 8, none⟩ (.int .i64 (x.gen + 1))) B x1 ms ds fm fd) := by
  unfold Hid
  rw [hx1]
  exact ⟨bm0, bd0, cm0, cd0, X0.set 8 (.int .i64 (x.gen + 1)), hm0.setCell (g := B) (j := 8) r10 _, hd0.setCell (g := B) (j := 8) r20 _, hr0, r10, r20⟩
 have M1 := hidden (Moved.set (B := B) (j := 8) (fm := fm) (w := w) (.int .i64 (x.gen + 1)))
 unfold arrC at X0
 obtain ⟨k0, k1, k2, k3, k4, k5, k6, k7, k8, k9, k10, k11, k12⟩ := X0.cells13
 have fz := X0.frozen
 have hgn : 0 <= x1.gen /\ x1.gen <= 60001 := by omega
 clear X0 hm0 hd0 hr0 r10 r20 hx1 hgen
 go_enter Tryz.func64, Tryz.ntmps64
 go_wp2
 generalize w.setCell ⟨B, 8, none⟩ (.int .i64 (x.gen + 1)) = W at A1 M1 ⊢
 clear k0 k1 k2 k3 k4 k5 k6 k7 k8 k9 k10 k11 k12 fz
 go_loopw [2] (fun i wr => ∃ (j : Nat) (fm1 : List Nat), j <= ms.length /\ i = .int .i64 j /\ ArrAt wr B (supsS (x1, ms) j).1 (supsS (x1, ms) j).2 ds fm1 fd /\ Moved B fm w fm1 wr) (fun i _ => ms.length - (intOf i).toNat)
 case atStart => exact ⟨0, fm, Nat.zero_le _, rfl, A1.out, M1.out⟩
 clear A1 M1
 obtain ⟨j, fm1, hj, rfl, hA, hMv⟩ := hrel
 obtain ⟨hMj, hsj, hlj⟩ := HK.out j
 have hfj := hsj.2.2.2.2.2.2.2.2.2.1
 have hgj := hsj.2.2.2.2.2.2.2.1
 have HS := hidden (supsS_succ (x1, ms) j)
 generalize hst : supsS (x1, ms) j = st at hA hMj hsj hlj hfj hgj HS
 have HST := hidden hst
 clear hst
 obtain ⟨y, ns⟩ := st
 dsimp only at hA hMj hsj hlj hfj hgj HS
 have hgy : 0 <= y.gen /\ y.gen <= 60001 := by omega
 clear hgj hsj
 have HA := hidden hA
 obtain ⟨bm, bd, cm, cd, X, hmm, hdd, hr, r1, r2⟩ := hA
 rw [hlj] at X
 unfold arrC at X
 have zB := X.lt
 have XH := hidden X
 obtain ⟨k0, k1, k2, k3, k4, k5, k6, k7, k8, k9, k10, k11, k12⟩ := X.cells13
 clear hmm hdd hr r1 r2 X
 by_cases hjn : j < ms.length
 . have i2 : (j : Int) < (ms.length : Int) := by omega
   have t2 : y.gen.tmod 2 = y.gen % 2 := Int.tmod_eq_emod_of_nonneg hgy.1
   have t3 : IntKind.i64.wrap (y.gen % 2) = y.gen % 2 := IntWalk.i64_in _ (by omega)
   have t4 : ¬ (2 : Int) = 0 := by omega
   have MV := hidden hMv
   clear hMv
   have hS : wr.drew.cell? ⟨B, 0, none⟩ = some (.int .i64 y.id) /\ wr.drew.cell? ⟨B, 1, none⟩ = some (.int .i64 y.n) /\ wr.drew.cell? ⟨B, 2, none⟩ = some (.int .i64 y.s) /\ wr.drew.cell? ⟨B, 4, none⟩ = some (.int .i64 y.lost) /\ wr.drew.cell? ⟨B, 5, none⟩ = some (.int .i64 y.built) /\ wr.drew.cell? ⟨B, 7, none⟩ = some (.int .i64 y.tail) /\ wr.drew.cell? ⟨B, 8, none⟩ = some (.int .i64 y.gen) := ⟨k0, k1, k2, k4, k5, k7, k8⟩
   go_wp2_with fail
   refine wp_region_held_drew (S := fun w' => w'.cell? ⟨B, 0, none⟩ = some (.int .i64 y.id) /\ w'.cell? ⟨B, 1, none⟩ = some (.int .i64 y.n) /\ w'.cell? ⟨B, 2, none⟩ = some (.int .i64 y.s) /\ w'.cell? ⟨B, 4, none⟩ = some (.int .i64 y.lost) /\ w'.cell? ⟨B, 5, none⟩ = some (.int .i64 y.built) /\ w'.cell? ⟨B, 7, none⟩ = some (.int .i64 y.tail) /\ w'.cell? ⟨B, 8, none⟩ = some (.int .i64 y.gen)) (by kernel_rfl) ?_ (fun hHeld => ?_)
   . exact hS
   refine held_t 0 hHeld ?_
   refine held_t 1 hHeld ?_
   refine held_t 2 hHeld ?_
   refine held_t 3 hHeld ?_
   refine held_t 4 hHeld ?_
   refine held_t 5 hHeld ?_
   refine held_t 6 hHeld ?_
   refine held_t 7 hHeld ?_
   refine held_t 8 hHeld ?_
   refine held_t 9 hHeld ?_
   refine held_t 10 hHeld ?_
   refine held_t 11 hHeld ?_
   refine held_t 12 hHeld ?_
   refine held_t 13 hHeld ?_
   refine held_t 14 hHeld ?_
   refine held_t 15 hHeld ?_
   refine held_t 16 hHeld ?_
   refine held_t 17 hHeld ?_
   refine held_t 18 hHeld ?_
   refine held_t 19 hHeld ?_
   refine held_t 20 hHeld ?_
   refine held_t 21 hHeld ?_
   refine held_t 22 hHeld ?_
   refine held_t 23 hHeld ?_
   refine held_t 24 hHeld ?_
   refine held_t 25 hHeld ?_
   refine held_t 26 hHeld ?_
   refine held_t 27 hHeld ?_
   refine held_t 28 hHeld ?_
   refine held_t 29 hHeld ?_
   refine held_t 30 hHeld ?_
   refine held_t 31 hHeld ?_
   refine held_t 32 hHeld ?_
   refine held_t 33 hHeld ?_
   refine held_t 34 hHeld ?_
   refine held_t 35 hHeld ?_
   refine held_t 36 hHeld ?_
   refine held_t 37 hHeld ?_
   refine held_t 38 hHeld ?_
   refine held_one (i := 39) (by kernel_rfl) rfl (by kernel_rfl) (fun K hK => ?_)
   go_simp
   refine (specPutSuper_any _ (supA y j)).mono ?_
   rintro e w2 ⟨ap, lp, cp, rfl, o2, b2'⟩
   have b2 : Below wr.heap.size wr w2 := (Below.refl wr.heap.size wr).drew.trans b2'
   have o2b : tIntS.Own w2 wr.heap.size w2.heap.size [.slice ap lp cp] (putD (supA y j)) := o2
   obtain ⟨fpp, mp, rp⟩ := o2b.mine
   have hlp : lp <= 9 := by have h1 := (row_length o2b.rd).1; have h2 := putD_len9 (supA y j); omega
   have hS2 : w2.cell? ⟨B, 0, none⟩ = some (.int .i64 y.id) /\ w2.cell? ⟨B, 1, none⟩ = some (.int .i64 y.n) /\ w2.cell? ⟨B, 2, none⟩ = some (.int .i64 y.s) /\ w2.cell? ⟨B, 4, none⟩ = some (.int .i64 y.lost) /\ w2.cell? ⟨B, 5, none⟩ = some (.int .i64 y.built) /\ w2.cell? ⟨B, 7, none⟩ = some (.int .i64 y.tail) /\ w2.cell? ⟨B, 8, none⟩ = some (.int .i64 y.gen) := ⟨(b2.cell (p := ⟨B, 0, none⟩) zB).trans k0, (b2.cell (p := ⟨B, 1, none⟩) zB).trans k1, (b2.cell (p := ⟨B, 2, none⟩) zB).trans k2, (b2.cell (p := ⟨B, 4, none⟩) zB).trans k4, (b2.cell (p := ⟨B, 5, none⟩) zB).trans k5, (b2.cell (p := ⟨B, 7, none⟩) zB).trans k7, (b2.cell (p := ⟨B, 8, none⟩) zB).trans k8⟩
   have A2 := hidden (HA.out.below b2)
   have LT := hidden HA.out.ltm
   have MV2 := hidden (MV.out.below b2)
   have MP := hidden mp
   have RP := hidden rp
   clear k0 k1 k2 k3 k4 k5 k6 k7 k8 k9 k10 k11 k12 o2 o2b b2 b2' mp rp MV HA
   go_wp2_with fail
   clear hHeld
   refine hK.out _ _ ?_ (fun hHeld => ?_)
   . exact hS2
   clear hK K
   refine held_one (i := 40) (by kernel_rfl) rfl (by kernel_rfl) (fun K hK => ?_)
   go_simp
   refine (l7Put_any _ B y ns ds fm1 fd A2.out hfj hMj j (by omega) _ _ _ _ (putD (supA y j)) fpp MP.out (fun hm => by have := RP.out _ hm; omega) (fun b hb hm => by have h1 := RP.out b hb; have h2 := LT.out.1 b hm; omega) (by omega)).mono ?_
   rintro e w3 ⟨rfl, fm3, hA3, hMv3⟩
   have hsm : SameN y (putS (y, ns) j (y.gen % 2) (putD (supA y j))).1 := doS_same _ _ hfj
   have hS3 : w3.cell? ⟨B, 0, none⟩ = some (.int .i64 y.id) /\ w3.cell? ⟨B, 1, none⟩ = some (.int .i64 y.n) /\ w3.cell? ⟨B, 2, none⟩ = some (.int .i64 y.s) /\ w3.cell? ⟨B, 4, none⟩ = some (.int .i64 y.lost) /\ w3.cell? ⟨B, 5, none⟩ = some (.int .i64 y.built) /\ w3.cell? ⟨B, 7, none⟩ = some (.int .i64 y.tail) /\ w3.cell? ⟨B, 8, none⟩ = some (.int .i64 y.gen) := by
    obtain ⟨_, _, _, _, X3, _⟩ := hA3
    unfold arrC at X3
    obtain ⟨k0, k1, k2, k3, k4, k5, k6, k7, k8, k9, k10, k11, k12⟩ := X3.cells13
    obtain ⟨e1, e2, e3, e4, e5, e6, e7, e8, _⟩ := hsm
    rw [e1] at k0
    rw [e2] at k1
    rw [e3] at k2
    rw [e4] at k4
    rw [e5] at k5
    rw [e7] at k7
    rw [e8] at k8
    exact ⟨k0, k1, k2, k4, k5, k7, k8⟩
   have HA3 : Hid (ArrAt w3 B (supsS (x1, ms) (j + 1)).1 (supsS (x1, ms) (j + 1)).2 ds fm3 fd) := by unfold Hid; rw [HS.out]; exact hA3
   have HM3 := hidden (MV2.out.trans hMv3)
   clear hA3 hMv3 A2 MV2 MP RP LT hS2 hsm
   go_wp2_with fail
   clear hHeld
   refine hK.out _ _ ?_ (fun hHeld => ?_)
   . exact hS3
   clear hK K
   refine wpAnyH_done (by kernel_rfl) ?_ _
   clear hHeld
   clear hS hS3
   go_wp2
   go_roundw
   case rel => exact ⟨j + 1, fm3, by omega, by go_num, HA3.out, HM3.out⟩
   case measure => simp [intOf]; omega
 have ej : j = ms.length := by omega
 subst ej
 have HMV := hidden hMv
 clear hMv
 go_wp2_with fail
 refine (l7Sync_any _ B y ns ds fm1 fd HA.out hfj hMj).mono ?_
 rintro e w3 ⟨rfl, fm3, hA3, hMv3⟩
 clear k0 k1 k2 k3 k4 k5 k6 k7 k8 k9 k10 k11 k12
 go_wp2
 refine bodyPost_end (v := .tuple #[]) (results_none rfl _ _ _) rfl ?_
 exact ⟨rfl, fm3, by rw [HMK.out, HST.out, ← hlj]; exact hA3, HMV.out.trans hMv3⟩

theorem arr_cells {w : World} {B : Nat} {x : ArrN} {ms : List MemD} {ds : List (Int × List Int)} {fm fd : List Nat} (h : ArrAt w B x ms ds fm fd) : w.cell? ⟨B, 4, none⟩ = some (.int .i64 x.lost) /\ w.cell? ⟨B, 5, none⟩ = some (.int .i64 x.built) /\ w.cell? ⟨B, 8, none⟩ = some (.int .i64 x.gen) /\ w.cell? ⟨B, 11, none⟩ = some (.bool x.down) /\ w.cell? ⟨B, 12, none⟩ = some (.bool x.broken) /\ ∀ j, w.frozen? ⟨B, j, none⟩ = false := by
 obtain ⟨bm, bd, cm, cd, X, _⟩ := h
 have fz := X.frozen
 unfold arrC at X
 obtain ⟨k0, k1, k2, k3, k4, k5, k6, k7, k8, k9, k10, k11, k12⟩ := X.cells13
 exact ⟨k4, k5, k8, k11, k12, fz⟩

def dn12 (d : Bool) : Int := if d = true then 6 else 0
theorem ret_two {a b : Int} {p : Prop} (h : (Ending.returned (Value.int .i64 a) = .returned (.int .i64 b)) /\ p) : (Ending.returned (Value.int .i64 a) = .returned (.int .i64 b)) /\ p := h
def spareM (s : Int) : MemD := (newSS (6 + s), [], false, [])
def spareA (q : ArrN × List MemD) : ArrN × List MemD := markS ({q.1 with built := 0}, q.2.set q.1.lost.toNat (spareM q.1.s))
theorem arr_built0 {w : World} {B : Nat} {x : ArrN} {ms : List MemD} {ds : List (Int × List Int)} {fm fd : List Nat} (h : ArrAt w B x ms ds fm fd) (k : Int) : ArrAt (w.setCell ⟨B, 5, none⟩ (.int .i64 k)) B {x with built := k} ms ds fm fd := by
 obtain ⟨bm, bd, cm, cd, X, hm, hd, hr, r1, r2⟩ := h
 exact ⟨bm, bd, cm, cd, X.set 5 _, hm.setCell r1 _, hd.setCell r2 _, hr, r1, r2⟩

theorem l12Spare_any (w : World) (B : Nat) (x : ArrN) (ms : List MemD) (ds : List (Int × List Int)) (fm fd : List Nat) (h : ArrAt w B x ms ds fm fd) (hf : x.fuse <= 1000) (hM : MsOk ms) (hg0 : 0 <= x.gen) (hg1 : x.gen <= 60000) (hg : geoB x.n x.s = true) (m : Nat) (hlo : x.lost = (m : Int)) (hm : m < ms.length) :
 Calls Tryz.prog 46 #[.pointer (some ⟨B, 0, none⟩)] w fun e w' => e = .returned (.int .i64 (dn12 (spareA (x, ms)).1.down)) /\ ∃ fm', ArrAt w' B (spareA (x, ms)).1 (spareA (x, ms)).2 ds fm' fd /\ Moved B fm w fm' w' := by
 obtain ⟨g1, g2, g3, g4⟩ := geoB_iff.1 hg
 obtain ⟨bm, bd, cm, cd, X, hmm, hdd, hr, r1, r2⟩ := h
 have hm63 := (row_length hmm.rd).2
 obtain ⟨g, rfl⟩ := row_head hmm (by omega)
 have X0 := X
 unfold arrC at X0
 obtain ⟨k0, k1, k2, k3, k4, k5, k6, k7, k8, k9, k10, k11, k12⟩ := X0.cells13
 rw [hlo] at k4
 have zB := X.lt
 have HOK : Hid (MsOk (ms.set m (spareM x.s))) := hM.set (memB_new (by omega) (by omega))
 have HSA : Hid (spareA (x, ms) = markS ({x with built := 0}, ms.set m (spareM x.s))) := by unfold Hid spareA; dsimp only; rw [hlo, Int.toNat_natCast]
 have XH := hidden X
 have MH := hidden hmm
 have DH := hidden hdd
 have hS : w.drew.cell? ⟨B, 3, none⟩ = some (.slice (some ⟨g, 0, none⟩) ms.length cm) /\ w.drew.cell? ⟨B, 4, none⟩ = some (.int .i64 (m : Int)) /\ w.drew.cell? ⟨B, 1, none⟩ = some (.int .i64 x.n) /\ w.drew.cell? ⟨B, 2, none⟩ = some (.int .i64 x.s) := ⟨k3, k4, k1, k2⟩
 have i1 : (0 : Int) <= (m : Int) := by omega
 have i3 : (m : Int) < (ms.length : Int) := by omega
 clear X X0 hmm hdd hM hlo hg k0 k5 k6 k7 k8 k9 k10 k11 k12
 go_enter Tryz.func46, Tryz.ntmps46
 go_wp2_with fail
 refine Upto.start (S := fun w' => w'.cell? ⟨B, 3, none⟩ = some (.slice (some ⟨g, 0, none⟩) ms.length cm) /\ w'.cell? ⟨B, 4, none⟩ = some (.int .i64 (m : Int)) /\ w'.cell? ⟨B, 1, none⟩ = some (.int .i64 x.n) /\ w'.cell? ⟨B, 2, none⟩ = some (.int .i64 x.s)) (k := 15) (by kernel_rfl) ?_
 refine Upto.t 0 hS ?_
 refine Upto.t 1 hS ?_
 refine Upto.t 2 hS ?_
 refine Upto.t 3 hS ?_
 refine Upto.t 4 hS ?_
 refine Upto.t 5 hS ?_
 refine Upto.t 6 hS ?_
 refine Upto.t 7 hS ?_
 refine Upto.t 8 hS ?_
 refine Upto.t 9 hS ?_
 refine Upto.t 10 hS ?_
 refine Upto.t 11 hS ?_
 refine Upto.one (i := 12) (by kernel_rfl) rfl (fun K hK => ?_)
 go_simp
 refine (l6Secs_any _ x.n x.s ⟨g3, g4⟩).mono ?_
 rintro e w1 ⟨rfl, b1'⟩
 have b1 : Below w.heap.size w w1 := (Below.refl w.heap.size w).drew.trans b1'
 have hS1 : w1.cell? ⟨B, 3, none⟩ = some (.slice (some ⟨g, 0, none⟩) ms.length cm) /\ w1.cell? ⟨B, 4, none⟩ = some (.int .i64 (m : Int)) /\ w1.cell? ⟨B, 1, none⟩ = some (.int .i64 x.n) /\ w1.cell? ⟨B, 2, none⟩ = some (.int .i64 x.s) := ⟨(b1.cell (p := ⟨B, 3, none⟩) zB).trans k3, (b1.cell (p := ⟨B, 4, none⟩) zB).trans k4, (b1.cell (p := ⟨B, 1, none⟩) zB).trans k1, (b1.cell (p := ⟨B, 2, none⟩) zB).trans k2⟩
 have z1 := b1.size
 have B1 := hidden b1
 clear b1 b1'
 go_wp2_with fail
 refine hK.out _ _ (fun _ => hS1) ?_
 clear hK K
 refine Upto.one (i := 13) (by kernel_rfl) rfl (fun K hK => ?_)
 go_simp
 refine (specMemNew_any _ (6 + x.s)).mono ?_
 rintro e w2 ⟨a0, c0, rfl, o2, b2⟩
 have b02 := Below.andThen B1.out b2
 have z2 := b2.size
 have om : (tMem 109).Own w2 w.heap.size w2.heap.size [.slice a0 (newSS (6 + x.s)).length c0, .slice none 0 0, .bool false, .slice none 0 0] (spareM x.s) := mem_own3 o2 ((nil_mine (t := tWr) (E := 109) w2).own (lo := w2.heap.size) (hi := w2.heap.size) (by simp)) ((nil_mine (t := intTy) (E := 3) w2).own (lo := w2.heap.size) (hi := w2.heap.size) (by simp)) (.inl (Nat.le_refl _)) (.inl (Nat.le_refl _)) (.inl (Nat.le_refl _)) ⟨z1, Nat.le_refl _⟩ ⟨by omega, Nat.le_refl _⟩ ⟨by omega, Nat.le_refl _⟩
 obtain ⟨fpx, mx, rx⟩ := om.mine
 obtain ⟨cOld, fz, hgm, fm9, hA9, hMv9⟩ := arr_store (m := m) XH.out MH.out DH.out hr r1 r2 b02 (by omega) mx (fun b hb => (rx b hb).1)
 obtain ⟨o0, t0⟩ := cOld 0 (by omega)
 obtain ⟨o1, t1⟩ := cOld 1 (by omega)
 obtain ⟨o2', t2⟩ := cOld 2 (by omega)
 obtain ⟨o3, t3⟩ := cOld 3 (by omega)
 rw [Nat.add_zero] at t0
 have HA := hidden hA9
 have HMV := hidden hMv9
 have hS2 : w2.cell? ⟨B, 3, none⟩ = some (.slice (some ⟨g, 0, none⟩) ms.length cm) /\ w2.cell? ⟨B, 4, none⟩ = some (.int .i64 (m : Int)) /\ w2.cell? ⟨B, 1, none⟩ = some (.int .i64 x.n) /\ w2.cell? ⟨B, 2, none⟩ = some (.int .i64 x.s) := ⟨(b02.cell (p := ⟨B, 3, none⟩) zB).trans k3, (b02.cell (p := ⟨B, 4, none⟩) zB).trans k4, (b02.cell (p := ⟨B, 1, none⟩) zB).trans k1, (b02.cell (p := ⟨B, 2, none⟩) zB).trans k2⟩
 have gB : ¬ g = B := fun e => r1 (e ▸ hgm)
 unfold put4 at HA HMV
 clear k3 k4 k1 k2 o2 om b2 b02 mx rx cOld hA9 hMv9 XH MH DH hS1 B1
 go_wp2_with fail
 refine hK.out _ _ (fun _ => hS2) ?_
 clear hK K
 refine Upto.t 14 hS2 ?_
 refine Upto.one (i := 15) (by kernel_rfl) rfl (fun K hK => ?_)
 go_simp
 refine hK.out _ _ (fun h => absurd rfl h) ?_
 clear hK K
 refine Upto.done (by kernel_rfl) ?_ _
 clear hS hS2 t0 t1 t2 t3 fz
 generalize (((w2.setCell ⟨g, m * 4, none⟩ (.slice a0 (newSS (6 + x.s)).length c0)).setCell ⟨g, m * 4 + 1, none⟩ (.slice none 0 0)).setCell ⟨g, m * 4 + 2, none⟩ (.bool false)).setCell ⟨g, m * 4 + 3, none⟩ (.slice none 0 0) = w3 at HA HMV ⊢
 obtain ⟨c4, c5, c8, c11, c12, fz⟩ := arr_cells HA.out
 generalize ms.set m (spareM x.s) = ns at HA HSA HOK
 have HA4 := hidden (arr_built0 HA.out 0)
 have MV4 := hidden (HMV.out.trans (Moved.set (B := B) (j := 5) (fm := fm9) (w := w3) (.int .i64 0)))
 have HMK := hidden (l7Mark_any _ B {x with built := 0} ns ds fm9 fd HA4.out hf HOK.out hg0 hg1)
 go_wp2_with fail
 refine HMK.out.mono ?_
 rintro e w5 ⟨rfl, fm5, A5, M5⟩
 have MV5 := hidden (MV4.out.trans M5)
 clear M5 HMK HA4 MV4 HA HMV c4 c5 c8 c11 c12 fz
 generalize markS ({x with built := 0}, ns) = st at A5 HSA
 obtain ⟨y, os⟩ := st
 dsimp only at A5
 have HA5 := hidden A5
 obtain ⟨_, _, _, d11, _, _⟩ := arr_cells A5
 clear A5
 cases hdn : y.down
 . have HF : Hid (Ending.returned (Value.int .i64 0) = .returned (.int .i64 (dn12 (spareA (x, ms)).1.down)) /\ ∃ fm', ArrAt w5 B (spareA (x, ms)).1 (spareA (x, ms)).2 ds fm' fd /\ Moved B fm w fm' w5) := by
    unfold Hid
    rw [HSA.out]
    refine ⟨?_, fm5, HA5.out, MV5.out⟩
    show _ = Ending.returned (.int .i64 (dn12 y.down))
    rw [hdn]
    rfl
   rw [hdn] at d11
   clear hdn
   go_wp2
   go_ret
   exact ret_two HF.out
 have HF : Hid (Ending.returned (Value.int .i64 6) = .returned (.int .i64 (dn12 (spareA (x, ms)).1.down)) /\ ∃ fm', ArrAt w5 B (spareA (x, ms)).1 (spareA (x, ms)).2 ds fm' fd /\ Moved B fm w fm' w5) := by
  unfold Hid
  rw [HSA.out]
  refine ⟨?_, fm5, HA5.out, MV5.out⟩
  show _ = Ending.returned (.int .i64 (dn12 y.down))
  rw [hdn]
  rfl
 rw [hdn] at d11
 clear hdn
 go_wp2
 go_ret
 exact ret_two HF.out

def lostF (x : ArrN) (ms : List MemD) : Bool := decide (x.lost ≠ -1) && (ms.getD x.lost.toNat memZ).2.2.1
def lostT (x : ArrN) (ms : List MemD) : Bool := decide (x.lost ≠ -1) && !(ms.getD x.lost.toNat memZ).2.2.1
def mkC (x : ArrN) : Int := if x.broken = true then 5 else if 59990 <= x.gen then 7 else 0
def spareK (x : ArrN) (ms : List MemD) (ds : List (Int × List Int)) : Int := if ask8 x ms ds = 0 then (if lostF x ms = true then mkC x else 2) else ask8 x ms ds
theorem arr_lost {x : ArrN} {ms : List MemD} {ds : List (Int × List Int)} (ha : arrB x ms ds = true) : -1 <= x.lost /\ x.lost < (ms.length : Int) := by
 obtain ⟨_, _, p3, _, p5, _⟩ := arr_split.1 ha
 have h1 := (mems_iff.1 p3).2
 unfold lostB6 at p5
 simp only [Bool.and_eq_true, inB_iff] at p5
 have h2 := p5.1
 omega
theorem lost_none {x : ArrN} {ms : List MemD} (h : x.lost = -1) : lostF x ms = false /\ lostT x ms = false := by unfold lostF lostT; simp [h]
theorem lost_at {x : ArrN} {ms : List MemD} {d : MemD} (h : x.lost ≠ -1) (hd : ms[x.lost.toNat]? = some d) : lostF x ms = d.2.2.1 /\ lostT x ms = !d.2.2.1 := by unfold lostF lostT; rw [getD_at hd]; simp [h]
theorem mk_good {x : ArrN} (h : mkC x = 0) : x.broken = false /\ x.gen < 59990 := by
 unfold mkC at h
 cases hb : x.broken
 . rw [hb] at h
   by_cases hg : 59990 <= x.gen
   . simp [hg] at h
   exact ⟨rfl, by omega⟩
 rw [hb] at h; simp at h
theorem spare_zero {x : ArrN} {ms : List MemD} {ds : List (Int × List Int)} (h : spareK x ms ds = 0) : arrB x ms ds = true /\ x.down = false /\ lostF x ms = true /\ x.broken = false /\ x.gen < 59990 := by
 unfold spareK at h
 by_cases h0 : ask8 x ms ds = 0
 . rw [if_pos h0] at h
   cases hl : lostF x ms
   . rw [hl] at h; simp at h
   rw [hl, if_pos rfl] at h
   exact ⟨(ask_good h0).1, (ask_good h0).2, rfl, mk_good h⟩
 rw [if_neg h0] at h; exact absurd h h0
theorem lost_pos {x : ArrN} {ms : List MemD} (h : lostF x ms = true ∨ lostT x ms = true) : x.lost ≠ -1 := by
 rcases h with h | h
 . unfold lostF at h; simp only [Bool.and_eq_true, decide_eq_true_eq] at h; exact h.1
 unfold lostT at h; simp only [Bool.and_eq_true, decide_eq_true_eq] at h; exact h.1
def BldAt (w : World) (B : Nat) (x : ArrN) (ms : List MemD) (ds : List (Int × List Int)) (fm fd : List Nat) : Prop :=
 ∃ (bm bd : Option Addr) (cm cd : Nat), Box w B 97 (arrC x (.slice bm ms.length cm) (.slice bd ds.length cd)) /\ (tMemS 109 51).Mine w [.slice bm ms.length cm] ms fm /\ (tWrS 82).Mine w [.slice bd ds.length cd] ds fd /\ (∀ b ∈ fm, b ∉ fd) /\ B ∉ fm /\ B ∉ fd
theorem BldAt.turned {w w' : World} {B : Nat} {x : ArrN} {ms : List MemD} {ds : List (Int × List Int)} {fm fd : List Nat} (h : BldAt w B x ms ds fm fd) (hb : Below w.heap.size w w') : BldAt w' B x ms ds fm fd := by
 obtain ⟨bm, bd, cm, cd, X, hm, hd, hr, r1, r2⟩ := h
 exact ⟨bm, bd, cm, cd, X.below hb X.lt, hm.below hb, hd.below hb, hr, r1, r2⟩
def Stp (w : World) (B : Nat) (fm fd : List Nat) (ds : List (Int × List Int)) (q : ArrN × List MemD) (c : Int) (e : Ending) (w' : World) : Prop :=
 e = .returned (.int .i64 c) /\ ∃ fm' fd', BldAt w' B q.1 q.2 ds fm' fd' /\ Turned [B] w w' /\ (∀ b ∈ fm', b ∈ fm ∨ w.heap.size <= b) /\ ∀ b ∈ fd', b ∈ fd ∨ w.heap.size <= b
def turnQ (code : Int) (q p : ArrN × List MemD) : ArrN × List MemD := if code = 0 then q else p
def turnC (code : Int) (q : ArrN × List MemD) : Int := if code = 0 then dn12 q.1.down else code

abbrev DOp := Nat × Option (Option (Int × List Int))
def supM (d : MemD) (u : Sup) : MemD := (d.1, wsCS d.1 d.2.1 d.2.2.1 d.2.2.2 u, d.2.2.1, wsBS d.1 d.2.1 d.2.2.1 d.2.2.2 u)
def opF (o : DOp) (x : ArrN) : MemD -> MemD :=
 match o.2 with
 | none => flM
 | some none => fun d => supM d (supA x o.1)
 | some (some p) => fun d => wrM d p.1 p.2
def runS (q : ArrN × List MemD) (ops : List DOp) : ArrN × List MemD := ops.foldl (fun q o => doS q o.1 (opF o q.1)) q

theorem opX_down {x : ArrN} (h : x.down = true) : opX x = x := by unfold opX; rw [if_pos h]
theorem opB_down {x : ArrN} (h : x.down = true) : opB x = false := by unfold opB; simp [h]
theorem opX_no {x : ArrN} (h : opB x = false) : (opX x).down = true := by
 unfold opB at h
 unfold opX
 by_cases hd : x.down = true
 . rw [if_pos hd]; exact hd
 rw [if_neg hd]
 simp at h
 rw [if_pos (h (by simpa using hd))]
theorem opX_yes {x : ArrN} (h : opB x = true) : (opX x).down = false := by
 unfold opB at h
 simp at h
 unfold opX
 rw [if_neg (by simp [h.1]), if_neg h.2]
 split
 . exact h.1
 exact h.1
theorem doS_down {q : ArrN × List MemD} (i : Nat) (f : MemD -> MemD) (h : q.1.down = true) : doS q i f = q := by
 unfold doS
 rw [opB_down h, opX_down h]
 split
 . rfl
 rfl
theorem runS_down {q : ArrN × List MemD} (h : q.1.down = true) : ∀ ops : List DOp, runS q ops = q
 | [] => rfl
 | o :: ops => by
  unfold runS
  rw [List.foldl_cons, doS_down _ _ h]
  exact runS_down h ops
theorem runS_app (q : ArrN × List MemD) (a b : List DOp) : runS q (a ++ b) = runS (runS q a) b := by unfold runS; rw [List.foldl_append]
theorem runS_one (q : ArrN × List MemD) (o : DOp) : runS q [o] = doS q o.1 (opF o q.1) := rfl
theorem runS_next {q : ArrN × List MemD} {ops : List DOp} {j : Nat} {o : DOp} (h : ops[j]? = some o) : runS q (ops.take (j + 1)) = doS (runS q (ops.take j)) o.1 (opF o (runS q (ops.take j)).1) := by
 rw [List.take_add_one, h, runS_app]
 rfl
theorem runS_end {q : ArrN × List MemD} {ops : List DOp} {j : Nat} (h : (runS q (ops.take j)).1.down = true) : runS q ops = runS q (ops.take j) := by
 have := runS_app q (ops.take j) (ops.drop j)
 rw [List.take_append_drop, runS_down h] at this
 exact this
theorem supM_ok (u : Sup) (d : MemD) (h : memB d.1 d.2.1 d.2.2.2 = true) : memB (supM d u).1 (supM d u).2.1 (supM d u).2.2.2 = true := by
 unfold supM wsCS wsBS
 dsimp only
 by_cases hu : supB u = true
 . rw [if_pos hu, if_pos hu]
   exact wrM_ok (u.gen % 2) (putD u) d h
 rw [if_neg hu, if_neg hu]
 exact h
theorem supM_put {u : Sup} (h : supB u = true) (d : MemD) : supM d u = wrM d (u.gen % 2) (putD u) := by
 unfold supM wsCS wsBS wrM
 rw [if_pos h, if_pos h]
theorem opF_ok (o : DOp) (x : ArrN) (d : MemD) (h : memB d.1 d.2.1 d.2.2.2 = true) : memB (opF o x d).1 (opF o x d).2.1 (opF o x d).2.2.2 = true := by
 obtain ⟨i, k⟩ := o
 rcases k with _ | _ | ⟨n, s⟩
 . exact flM_ok d h
 . exact supM_ok _ d h
 exact wrM_ok n s d h
theorem opF_flag (o : DOp) (x : ArrN) (d : MemD) : (opF o x d).2.2.1 = d.2.2.1 := by
 obtain ⟨i, k⟩ := o
 rcases k with _ | _ | ⟨n, s⟩ <;> rfl
theorem runS_keeps {q : ArrN × List MemD} (h : MsOk q.2) (hf : q.1.fuse <= 1000) : ∀ ops : List DOp, MsOk (runS q ops).2 /\ SameN q.1 (runS q ops).1 /\ (runS q ops).2.length = q.2.length := by
 intro ops
 induction ops generalizing q with
 | nil => exact ⟨h, SameN.refl hf, rfl⟩
 | cons o ops ih =>
  have h1 := doS_same (q := q) o.1 (opF o q.1) hf
  obtain ⟨a, b, c⟩ := ih (q := doS q o.1 (opF o q.1)) (doS_ok h (opF_ok o q.1)) h1.2.2.2.2.2.2.2.2.2.1
  exact ⟨a, h1.trans b, c.trans (doS_len _ _ _)⟩
theorem opF_opX (o : DOp) (x : ArrN) : opF o (opX x) = opF o x := by
 obtain ⟨i, k⟩ := o
 rcases k with _ | _ | ⟨n, s⟩
 . rfl
 . have e : supA (opX x) i = supA x i := by
    unfold opX
    split
    . rfl
    split
    . rfl
    split <;> rfl
   show (fun d => supM d (supA (opX x) i)) = fun d => supM d (supA x i)
   rw [e]
 rfl
def flagAt (ms : List MemD) (k : Nat) : Bool := (ms.getD k memZ).2.2.1
theorem flag_set {ms : List MemD} {i : Nat} {d : MemD} (h : d.2.2.1 = flagAt ms i) (k : Nat) : flagAt (ms.set i d) k = flagAt ms k := by
 unfold flagAt
 by_cases hk : k = i
 . subst hk
   by_cases hl : k < ms.length
   . rw [List.getD_eq_getElem?_getD, List.getElem?_set_self hl]
     exact h
   rw [List.set_eq_of_length_le (by omega)]
 rw [List.getD_eq_getElem?_getD, List.getD_eq_getElem?_getD, List.getElem?_set_ne (fun e => hk e.symm)]
theorem doS_flag (q : ArrN × List MemD) (i : Nat) {f : MemD -> MemD} (hf : ∀ d, (f d).2.2.1 = d.2.2.1) (k : Nat) : flagAt (doS q i f).2 k = flagAt q.2 k := by
 unfold doS
 split
 . rfl
 split
 . exact flag_set (hf _) k
 rfl
theorem runS_flag (q : ArrN × List MemD) (ops : List DOp) (k : Nat) : flagAt (runS q ops).2 k = flagAt q.2 k := by
 induction ops generalizing q with
 | nil => rfl
 | cons o ops ih => exact (ih (doS q o.1 (opF o q.1))).trans (doS_flag q o.1 (opF_flag o q.1) k)
def opsL (K : Nat -> DOp) (ms : List MemD) (j : Nat) : List DOp := ((List.range j).filter fun i => !flagAt ms i).map K
theorem opsL_succ (K : Nat -> DOp) (ms : List MemD) (j : Nat) : opsL K ms (j + 1) = opsL K ms j ++ (if flagAt ms j = true then [] else [K j]) := by
 unfold opsL
 rw [List.range_succ, List.filter_append, List.map_append]
 cases h : flagAt ms j <;> simp [h]
theorem opsL_len (K : Nat -> DOp) (ms : List MemD) (j : Nat) : (opsL K ms j).length <= j := by
 unfold opsL
 rw [List.length_map]
 exact Nat.le_trans (List.length_filter_le _ _) (by rw [List.length_range]; exact Nat.le_refl _)
theorem opsL_mem {K : Nat -> DOp} {ms : List MemD} {j : Nat} {o : DOp} (h : o ∈ opsL K ms j) : ∃ i, i < j /\ flagAt ms i = false /\ o = K i := by
 unfold opsL at h
 obtain ⟨i, hi, rfl⟩ := List.mem_map.1 h
 obtain ⟨h1, h2⟩ := List.mem_filter.1 hi
 exact ⟨i, List.mem_range.1 h1, by simpa using h2, rfl⟩
theorem run_list {K : Nat -> DOp} (hK : ∀ i, (K i).1 = i) (q : ArrN × List MemD) : ∀ j, runS q (opsL K q.2 j) = (List.range j).foldl (fun q i => doS q i (opF (K i) q.1)) q
 | 0 => rfl
 | j + 1 => by
  rw [opsL_succ, runS_app, List.range_succ, List.foldl_append, ← run_list hK q j]
  cases h : flagAt q.2 j
  . rw [if_neg (by simp), runS_one, hK]
    rfl
  rw [if_pos rfl]
  have h2 : flagAt (runS q (opsL K q.2 j)).2 j = true := by rw [runS_flag]; exact h
  show runS q (opsL K q.2 j) = doS (runS q (opsL K q.2 j)) j _
  unfold flagAt at h2
  unfold doS
  rw [if_pos h2]
def flushK (i : Nat) : DOp := (i, none)
def supK (i : Nat) : DOp := (i, some none)
theorem run_sync (q : ArrN × List MemD) (j : Nat) : runS q (opsL flushK q.2 j) = syncS q j := run_list (fun _ => rfl) q j
theorem run_sups {q : ArrN × List MemD} (h : MsOk q.2) (hf : q.1.fuse <= 1000) (hu : ∀ i : Nat, i < q.2.length -> supB (supA q.1 i) = true) : ∀ j, j <= q.2.length -> runS q (opsL supK q.2 j) = supsS q j
 | 0, _ => rfl
 | j + 1, hj => by
  have ih := run_sups h hf hu j (by omega)
  have hs := (supsS_keeps h hf j).2.1
  rw [run_list (fun _ => rfl)] at ih ⊢
  rw [List.range_succ, List.foldl_append, ih, supsS_succ]
  have e : supA (supsS q j).1 j = supA q.1 j := by
   obtain ⟨a1, a2, a3, a4, a5, a6, a7, a8, a9, _⟩ := hs
   unfold supA
   rw [a1, a2, a3, a4, a5, a7, a8]
  have hu2 : supB (supA (supsS q j).1 j) = true := by rw [e]; exact hu j (by omega)
  show doS (supsS q j) j (fun d => supM d (supA (supsS q j).1 j)) = putS _ _ _ _
  unfold putS
  congr 1
  funext d
  exact supM_put hu2 d

def Enters (F : FuncId) (args : Array Value) : Prop := ∀ w : World, Sem.run Tryz.prog (callFunc F args) w = .ok (.enter F args) w
theorem enters_of {F : FuncId} {fn : Func} (hf : Tryz.prog.funcs[F]? = some fn) (hn : (fn.name == "runtime.NumGoroutine") = false) (hb : fn.body.isNone = false) (args : Array Value) : Enters F args := by
 intro w
 have hb' : ¬ fn.body = none := fun h => by rw [h] at hb; cases hb
 have hn' : ¬ fn.name = "runtime.NumGoroutine" := by simpa using hn
 simp [go_sem, callFunc, hf, hn', hb']
def OpRuns (B : Nat) (fp : List Nat) (F : FuncId) (cap : Array Value) (o : DOp) (w : World) : Prop :=
 ∀ (x : ArrN) (ms : List MemD) (ds : List (Int × List Int)) (fm fd : List Nat), ArrAt w B x ms ds fm fd -> MsOk ms -> (∀ b ∈ fp, b ≠ B /\ b ∉ fm) -> o.1 < ms.length ->
  Calls Tryz.prog F cap w fun e w' => e = .returned (.tuple #[]) /\ ∃ fm', ArrAt w' B x (ms.set o.1 (opF o x (ms.getD o.1 memZ))) ds fm' fd /\ Moved B fm w fm' w'
def opOw (B : Nat) (w : World) (vs : List Value) (o : DOp) (fp : List Nat) : Prop :=
 ∃ F cap, vs = [.func (Fn.func F) #[] cap] /\ Enters F cap /\ (∀ b ∈ fp, b < w.heap.size) /\ ∀ w' : World, (∀ b ∈ fp, w'.heap[b]? = w.heap[b]?) -> w.heap.size <= w'.heap.size -> OpRuns B fp F cap o w'
abbrev opTy (B : Nat) : Ty where
 n := 1
 D := DOp
 rd := opOw B
 ow := opOw B
 owRd := fun h => h
 rdLen := fun ⟨_, _, h, _⟩ => by rw [h]; rfl
 rdLt := fun ⟨_, _, _, _, h, _⟩ => h
 rdKept := fun ⟨F, cap, h, he, hl, hr⟩ hk hs => ⟨F, cap, h, he, fun b hb => Nat.lt_of_lt_of_le (hl b hb) hs, fun w'' hk2 hs2 => hr w'' (fun b hb => (hk2 b hb).trans (hk b hb)) (Nat.le_trans hs hs2)⟩
 owKept := fun ⟨F, cap, h, he, hl, hr⟩ hk hs => ⟨F, cap, h, he, fun b hb => Nat.lt_of_lt_of_le (hl b hb) hs, fun w'' hk2 hs2 => hr w'' (fun b hb => (hk2 b hb).trans (hk b hb)) (Nat.le_trans hs hs2)⟩
abbrev tOps (B : Nat) : Ty := rowTy (opTy B) 131

abbrev goneV : Value := .iface 119 (.agg #[])
abbrev goneC : List PanicEntry := [{ v := goneV, recovered := false }]
def EndOf (y : ArrN) (e : Ending) : Prop := if y.down = true then e = .panicked goneC else e = .returned (.tuple #[])
theorem EndOf.gone {y : ArrN} (h : y.down = true) : EndOf y (.panicked goneC) := by unfold EndOf; rw [if_pos h]
theorem EndOf.fine {y : ArrN} (h : y.down = false) : EndOf y (.returned (.tuple #[])) := by unfold EndOf; rw [if_neg (by simp [h])]
def Did (w : World) (B : Nat) (fm : List Nat) (ds : List (Int × List Int)) (fd : List Nat) (q : ArrN × List MemD) (e : Ending) (w' : World) : Prop := EndOf q.1 e /\ ∃ fm', ArrAt w' B q.1 q.2 ds fm' fd /\ Moved B fm w fm' w'

theorem dop_at {w : World} {B n cap j : Nat} {bo : Option Addr} {ops : List DOp} {o : DOp} {fo : List Nat} (h : (tOps B).Mine w [.slice bo n cap] ops fo) (hj : ops[j]? = some o) :
 ∃ (g : Nat) (F : FuncId) (cp : Array Value) (fp : List Nat), bo = some ⟨g, 0, none⟩ /\ g < w.heap.size /\ w.cell? ⟨g, j, none⟩ = some (.func (Fn.func F) #[] cp) /\ Enters F cp /\ (∀ b ∈ fp, b ∈ fo) /\ ∀ w' : World, (∀ b ∈ fp, w'.heap[b]? = w.heap[b]?) -> w.heap.size <= w'.heap.size -> OpRuns B fp F cp o w' := by
 obtain ⟨h, _⟩ := h
 have hjl := (List.getElem?_eq_some_iff.1 hj).1
 rcases h with ⟨_, h2, _⟩ | ⟨b, cap', cur, fps, h1, h2, h3, h4, h5, h6, h7, h8⟩
 . rw [h2] at hjl; simp at hjl
 simp only [List.cons.injEq, Value.slice.injEq, and_true] at h1
 obtain ⟨f, hf, F, cp, hv, he, hl, hr⟩ := h8 j o hj
 refine ⟨b, F, cp, f, h1.1, (Array.getElem?_eq_some_iff.1 h4).1, ?_, he, fun b' hb' => ?_, hr⟩
 . rw [cell_of_row w b _ cur 131 (0, 0) h4]
   have : ((cur.toList.drop (j * 1)).take 1)[0]? = some (.func (Fn.func F) #[] cp) := by rw [hv]; rfl
   rw [List.getElem?_take, if_pos (by omega), List.getElem?_drop] at this
   simpa using this
 rw [h6]
 exact List.mem_cons_of_mem _ (List.mem_flatten.2 ⟨f, List.mem_of_getElem? hf, hb'⟩)

theorem puts_arr {w : World} {B : Nat} {T : TypeId} {z0 z1 z2 z3 z4 z5 z6 z7 z8 z9 z10 z11 z12 : Value} (h : Box w B T #[z0, z1, z2, z3, z4, z5, z6, z7, z8, z9, z10, z11, z12]) (c0 c1 c2 c3 c4 c5 c6 c7 c8 c9 c10 c11 c12 : Value) : Box (puts w B [(0, c0), (1, c1), (2, c2), (3, c3), (4, c4), (5, c5), (6, c6), (7, c7), (8, c8), (9, c9), (10, c10), (11, c11), (12, c12)]) B T #[c0, c1, c2, c3, c4, c5, c6, c7, c8, c9, c10, c11, c12] := by
 simp only [puts]
 have := (((((((((((((h.set 0 c0).set 1 c1).set 2 c2).set 3 c3).set 4 c4).set 5 c5).set 6 c6).set 7 c7).set 8 c8).set 9 c9).set 10 c10).set 11 c11).set 12 c12)
 simpa using this

abbrev StM := ArrN × List MemD -> (ArrN × List MemD) × Int
def runT : List StM -> ArrN × List MemD -> (ArrN × List MemD) × Int
 | [], q => (q, 0)
 | f :: fs, q => if (f q).2 = 0 then runT fs (f q).1 else f q
def Thr (w : World) (B : Nat) (fm fd : List Nat) (ds : List (Int × List Int)) (q : ArrN × List MemD) (c : Int) (e : Ending) (w' : World) : Prop :=
 ∃ (bm bd : Option Addr) (cm cd : Nat) (fm' fd' : List Nat), e = .returned (.tuple #[.agg (arrC q.1 (.slice bm q.2.length cm) (.slice bd ds.length cd)), .int .i64 c]) /\ (tMemS 109 51).Mine w' [.slice bm q.2.length cm] q.2 fm' /\ (tWrS 82).Mine w' [.slice bd ds.length cd] ds fd' /\ (∀ b ∈ fm', b ∉ fd') /\ (∀ b ∈ fm', b ∈ fm ∨ w.heap.size <= b) /\ (∀ b ∈ fd', b ∈ fd ∨ w.heap.size <= b) /\ Turned [B] w w'
theorem runT_good {fs : List StM} {q : ArrN × List MemD} {j : Nat} {f : StM} (hf : fs[j]? = some f) (h : (f q).2 = 0) : runT (fs.drop j) q = runT (fs.drop (j + 1)) (f q).1 := by
 obtain ⟨hj, rfl⟩ := List.getElem?_eq_some_iff.1 hf
 rw [List.drop_eq_getElem_cons hj]
 exact if_pos h
theorem runT_end {fs : List StM} {q : ArrN × List MemD} {j : Nat} {f : StM} (hf : fs[j]? = some f) (h : (f q).2 ≠ 0) : runT (fs.drop j) q = f q := by
 obtain ⟨hj, rfl⟩ := List.getElem?_eq_some_iff.1 hf
 rw [List.drop_eq_getElem_cons hj]
 exact if_neg h
theorem thr_out {w W wr : World} {B R : Nat} {fm fd fm1 fd1 : List Nat} {y : ArrN} {ns : List MemD} {ds : List (Int × List Int)} {c : Int} {bm bd : Option Addr} {cm cd : Nat} {e : Ending} (hR : w.heap.size <= R) (hRW : R < W.heap.size) (hA : Below w.heap.size w W) (T : Turned [B] W wr) (he : e = .returned (.tuple #[.agg (arrC y (.slice bm ns.length cm) (.slice bd ds.length cd)), .int .i64 c]))
 (hm : (tMemS 109 51).Mine wr [.slice bm ns.length cm] ns fm1) (hd : (tWrS 82).Mine wr [.slice bd ds.length cd] ds fd1) (hr : ∀ b ∈ fm1, b ∉ fd1) (rm : ∀ b ∈ fm1, (b ∈ fm /\ b < w.heap.size) ∨ W.heap.size <= b) (rd : ∀ b ∈ fd1, (b ∈ fd /\ b < w.heap.size) ∨ W.heap.size <= b) : Thr w B fm fd ds (y, ns) c e (puts wr R [(0, .int .i64 y.id), (1, .int .i64 y.n), (2, .int .i64 y.s), (3, .slice bm ns.length cm), (4, .int .i64 y.lost), (5, .int .i64 y.built), (6, .int .i64 y.seq), (7, .int .i64 y.tail), (8, .int .i64 y.gen), (9, .slice bd ds.length cd), (10, .int .i64 y.fuse), (11, .bool y.down), (12, .bool y.broken)]) := by
 have hbt := puts_but R [(0, .int .i64 y.id), (1, .int .i64 y.n), (2, .int .i64 y.s), (3, .slice bm ns.length cm), (4, .int .i64 y.lost), (5, .int .i64 y.built), (6, .int .i64 y.seq), (7, .int .i64 y.tail), (8, .int .i64 y.gen), (9, .slice bd ds.length cd), (10, .int .i64 y.fuse), (11, .bool y.down), (12, .bool y.broken)] wr
 have z1 := hA.size
 have z2 := T.size
 refine ⟨bm, bd, cm, cd, fm1, fd1, he, hm.but hbt (fun b hb => ?_), hd.but hbt (fun b hb => ?_), hr, fun b hb => ?_, fun b hb => ?_, ⟨hbt.os.trans (T.os.trans hA.os), hbt.tape.trans (T.tape.trans hA.tape), hbt.output.trans (T.output.trans hA.output), Nat.le_trans (Nat.le_trans z1 z2) hbt.size, fun k hk hne => (hbt.block k (by omega) (by omega)).trans ((T.block k (by omega) hne).trans (hA.block k hk))⟩⟩
 . rcases rm b hb with h | h <;> omega
 . rcases rd b hb with h | h <;> omega
 . rcases rm b hb with h | h
   . exact .inl h.1
   exact .inr (by omega)
 rcases rd b hb with h | h
 . exact .inl h.1
 exact .inr (by omega)

theorem through_any (w : World) (B : Nat) (q0 : ArrN × List MemD) (ds : List (Int × List Int)) (fm fd : List Nat) (h : BldAt w B q0.1 q0.2 ds fm fd) (fs : List StM) (Fs : Nat -> FuncId) (g cap : Nat) (hg : g < w.heap.size) (hgB : g ≠ B) (hcap : fs.length <= cap /\ cap <= 2097152)
 (hrow : ∀ k, k < fs.length -> w.cell? ⟨g, k, none⟩ = some (.func (Fn.func (Fs k)) #[.pointer (some ⟨B, 0, none⟩)] #[])) (hen : ∀ k, k < fs.length -> Enters (Fs k) #[.pointer (some ⟨B, 0, none⟩)])
 (P : ArrN × List MemD -> Prop) (hP0 : P q0) (hP : ∀ (k : Nat) (f : StM) (q : ArrN × List MemD), fs[k]? = some f -> P q -> P (f q).1)
 (hst : ∀ (k : Nat) (f : StM), fs[k]? = some f -> ∀ (w' : World) (fm' fd' : List Nat) (q : ArrN × List MemD), BldAt w' B q.1 q.2 ds fm' fd' -> P q -> Calls Tryz.prog (Fs k) #[.pointer (some ⟨B, 0, none⟩)] w' (Stp w' B fm' fd' ds (f q).1 (f q).2)) :
 Calls Tryz.prog 48 #[.pointer (some ⟨B, 0, none⟩), .slice (some ⟨g, 0, none⟩) fs.length cap] w (Thr w B fm fd ds (runT fs q0).1 (runT fs q0).2) := by
 have hA := new_below w (.cells #[.int .i64 0, .int .i64 0, .int .i64 0, .slice none 0 0, .int .i64 0, .int .i64 0, .int .i64 0, .int .i64 0, .int .i64 0, .slice none 0 0, .int .i64 0, .bool false, .bool false] 33)
 have R0 := Box.new w 33 #[.int .i64 0, .int .i64 0, .int .i64 0, .slice none 0 0, .int .i64 0, .int .i64 0, .int .i64 0, .int .i64 0, .int .i64 0, .slice none 0 0, .int .i64 0, .bool false, .bool false]
 have H0 := hidden (h.turned hA)
 have hlm : ∀ b ∈ fm, b < w.heap.size := by obtain ⟨_, _, _, _, _, hm, _⟩ := h; exact hm.lt
 have hld : ∀ b ∈ fd, b < w.heap.size := by obtain ⟨_, _, _, _, _, _, hd, _⟩ := h; exact hd.lt
 have zB : B < w.heap.size := by obtain ⟨_, _, _, _, X, _⟩ := h; exact X.lt
 have HROW := hidden (fun k hk => (hA.cell (p := ⟨g, k, none⟩) hg).trans (hrow k hk))
 have HST := hidden hst
 have HEN := hidden hen
 have HPP := hidden hP
 have HP0 := hidden hP0
 clear h hrow hst hen hP hP0
 go_enter Tryz.func48, Tryz.ntmps48
 go_wp2
 have zW : w.heap.size < (w.alloc (.cells #[.int .i64 0, .int .i64 0, .int .i64 0, .slice none 0 0, .int .i64 0, .int .i64 0, .int .i64 0, .int .i64 0, .int .i64 0, .slice none 0 0, .int .i64 0, .bool false, .bool false] 33)).heap.size := by simp
 generalize w.alloc (.cells #[.int .i64 0, .int .i64 0, .int .i64 0, .slice none 0 0, .int .i64 0, .int .i64 0, .int .i64 0, .int .i64 0, .int .i64 0, .slice none 0 0, .int .i64 0, .bool false, .bool false] 33) = W at hA R0 H0 HROW zW ⊢
 obtain ⟨R, hR⟩ : ∃ R, w.heap.size = R := ⟨_, rfl⟩
 have hR1 : w.heap.size <= R /\ R < W.heap.size := by omega
 have hBR : ¬ B = R /\ ¬ g = R := by omega
 rw [hR] at R0 ⊢
 clear hR zW
 go_loopw [11] (fun i wr => ∃ (j : Nat) (q : ArrN × List MemD) (fm1 fd1 : List Nat), j <= fs.length /\ i = .int .i64 j /\ runT (fs.drop j) q = runT fs q0 /\ P q /\ BldAt wr B q.1 q.2 ds fm1 fd1 /\ Turned [B] W wr /\ (∀ b ∈ fm1, b ∈ fm ∨ W.heap.size <= b) /\ ∀ b ∈ fd1, b ∈ fd ∨ W.heap.size <= b) (fun i _ => fs.length - (intOf i).toNat)
 case atStart => exact ⟨0, q0, fm, fd, Nat.zero_le _, rfl, rfl, HP0.out, H0.out, Turned.refl _ _, fun b hb => .inl hb, fun b hb => .inl hb⟩
 obtain ⟨j, q, fm1, fd1, hj, rfl, hrun, hPq, hB, hT, hf1, hf2⟩ := hrel
 have R1 := R0.turned hT (by simp; omega)
 have zT := hT.size
 by_cases hjn : j < fs.length
 . have i1 : (0 : Int) <= (j : Int) := by omega
   have i2 : (j : Int) < (fs.length : Int) := by omega
   have hfj : fs[j]? = some (fs[j]'hjn) := List.getElem?_eq_getElem hjn
   generalize fs[j]'hjn = f at hfj
   have hcr : wr.cell? ⟨g, j, none⟩ = some (.func (Fn.func (Fs j)) #[.pointer (some ⟨B, 0, none⟩)] #[]) := (World.cell?_of_block (w := W) (hT.block g (by have := hA.size; omega) (by simpa using hgB))).trans (HROW.out j hjn)
   have hen := HEN.out j hjn
   have HC := hidden (HST.out j f hfj wr fm1 fd1 q hB hPq)
   have HPN := hidden (HPP.out j f q hfj hPq)
   have HG := hidden (fun h => runT_good (q := q) hfj h)
   have HE := hidden (fun h => runT_end (q := q) hfj h)
   have HRUN := hidden hrun
   have HT := hidden hT
   have HF1 := hidden hf1
   have HF2 := hidden hf2
   generalize Fs j = Fj at hcr hen HC
   have hcf : ∀ w : World, Sem.run Tryz.prog (callFunc Fj #[.pointer (some ⟨B, 0, none⟩)]) w = .ok (.enter Fj #[.pointer (some ⟨B, 0, none⟩)]) w := hen
   clear hrun hT hf1 hf2 hB hPq hen
   go_wp2_with fail
   refine HC.out.mono ?_
   rintro e w1 ⟨rfl, fm2, fd2, B2, T2, g1, g2⟩
   have HT2 := hidden (HT.out.trans T2)
   have R2 := R1.turned T2 (by simp; omega)
   have HM2 : Hid (∀ b ∈ fm2, b ∈ fm ∨ W.heap.size <= b) := fun b hb => by rcases g1 b hb with h | h; exact HF1.out b h; exact .inr (by omega)
   have HD2 : Hid (∀ b ∈ fd2, b ∈ fd ∨ W.heap.size <= b) := fun b hb => by rcases g2 b hb with h | h; exact HF2.out b h; exact .inr (by omega)
   clear g1 g2 T2 R1 HC hcr hcf
   generalize f q = p at HPN HG HE B2 ⊢
   obtain ⟨⟨y, ns⟩, c⟩ := p
   dsimp only at HPN HG HE B2 ⊢
   by_cases hc : c = 0
   . have e0 : (c != 0) = false := by simpa using hc
     have HN := hidden ((HG.out hc).symm.trans HRUN.out)
     have HB2 := hidden B2
     clear hc B2
     go_wp2
     go_roundw
     case rel => exact ⟨j + 1, (y, ns), fm2, fd2, by omega, by go_num, HN.out, HPN.out, HB2.out, HT2.out, HM2.out, HD2.out⟩
     case measure => simp [intOf]; omega
   have e0 : (c != 0) = true := by simpa using hc
   have HN := hidden (HRUN.out.symm.trans (HE.out hc))
   obtain ⟨vm, vd, cvm, cvd, X2, mm2, dd2, hr2, _, _⟩ := B2
   unfold arrC at X2
   have HO := hidden (thr_out (y := y) (c := c) (e := .returned (.tuple #[.agg (arrC y _ _), .int .i64 c])) (fm := fm) (fd := fd) hR1.1 hR1.2 hA HT2.out rfl mm2 dd2 hr2 (fun b hb => by rcases HM2.out b hb with h | h; exact .inl ⟨h, hlm b h⟩; exact .inr h) (fun b hb => by rcases HD2.out b hb with h | h; exact .inl ⟨h, hld b h⟩; exact .inr h))
   obtain ⟨t0, t1, t2, t3, t4, t5, t6, t7, t8, t9, t10, t11, t12⟩ := X2.cells13
   obtain ⟨s0, s1, s2, s3, s4, s5, s6, s7, s8, s9, s10, s11, s12⟩ := R2.cells13
   have fzr := R2.frozen
   unfold arrC at HO
   simp only [puts] at HO
   clear hc X2 mm2 dd2 R2
   go_wp2
   refine bodyPost_ret (v := .tuple #[.agg #[.int .i64 y.id, .int .i64 y.n, .int .i64 y.s, .slice vm ns.length cvm, .int .i64 y.lost, .int .i64 y.built, .int .i64 y.seq, .int .i64 y.tail, .int .i64 y.gen, .slice vd ds.length cvd, .int .i64 y.fuse, .bool y.down, .bool y.broken], .int .i64 c]) (by simp [results, Tryz.results48, go_sem, s0, s1, s2, s3, s4, s5, s6, s7, s8, s9, s10, s11, s12]) rfl ?_
   rw [HN.out]; exact HO.out
 have ej : j = fs.length := by omega
 have HN : Hid (runT fs q0 = (q, 0)) := by unfold Hid; rw [← hrun, ej, List.drop_length]; rfl
 obtain ⟨y, ns⟩ := q
 dsimp only at hB
 obtain ⟨vm, vd, cvm, cvd, X2, mm2, dd2, hr2, _, _⟩ := hB
 unfold arrC at X2
 have HO := hidden (thr_out (y := y) (c := 0) (e := .returned (.tuple #[.agg (arrC y _ _), .int .i64 0])) (fm := fm) (fd := fd) hR1.1 hR1.2 hA hT rfl mm2 dd2 hr2 (fun b hb => by rcases hf1 b hb with h | h; exact .inl ⟨h, hlm b h⟩; exact .inr h) (fun b hb => by rcases hf2 b hb with h | h; exact .inl ⟨h, hld b h⟩; exact .inr h))
 obtain ⟨t0, t1, t2, t3, t4, t5, t6, t7, t8, t9, t10, t11, t12⟩ := X2.cells13
 obtain ⟨s0, s1, s2, s3, s4, s5, s6, s7, s8, s9, s10, s11, s12⟩ := R1.cells13
 have fzr := R1.frozen
 unfold arrC at HO
 simp only [puts] at HO
 clear X2 mm2 dd2 R1 hrun ej hT hf1 hf2 hPq
 go_wp2
 refine bodyPost_ret (v := .tuple #[.agg #[.int .i64 y.id, .int .i64 y.n, .int .i64 y.s, .slice vm ns.length cvm, .int .i64 y.lost, .int .i64 y.built, .int .i64 y.seq, .int .i64 y.tail, .int .i64 y.gen, .slice vd ds.length cvd, .int .i64 y.fuse, .bool y.down, .bool y.broken], .int .i64 0]) (by simp [results, Tryz.results48, go_sem, s0, s1, s2, s3, s4, s5, s6, s7, s8, s9, s10, s11, s12]) rfl ?_
 rw [HN.out]; exact HO.out

theorem arr_len {x : ArrN} {ms : List MemD} {ds : List (Int × List Int)} (h : arrB x ms ds = true) : 3 <= x.n /\ x.n <= 5 /\ (ms.length : Int) = x.n := by
 unfold arrB memsB at h
 simp only [Bool.and_eq_true, geoB_iff, decide_eq_true_eq] at h
 exact ⟨h.1.1, h.1.2.1, h.2.2.1.2⟩
theorem ms_light {ns : List MemD} (h : MsOk ns) (hl : ns.length <= 5) : wtMemS ns <= 10005 := by
 have h1 := sumL_bound (ns.map wtMem) 2000 (fun y hy => by
  obtain ⟨d, hd, rfl⟩ := List.mem_map.1 hy
  obtain ⟨i, hi⟩ := List.mem_iff_getElem?.1 hd
  obtain ⟨ss, cs, f, bs⟩ := d
  exact memB_light (h i _ hi) f)
 rw [List.length_map] at h1
 unfold wtMemS
 omega
theorem out_light {x : ArrN} {ms : List MemD} {ds : List (Int × List Int)} {q : ArrN × List MemD} (h : arrB x ms ds = true) (hk : MsOk q.2) (hl : q.2.length = ms.length) (hw : wtArr ms ds <= 1048576) : wtArr q.2 ds <= 2097152 := by
 have h1 := arr_len h
 have h2 := ms_light hk (by omega)
 unfold wtArr at hw ⊢
 omega
theorem markS_keeps {q : ArrN × List MemD} (h : MsOk q.2) (hf : q.1.fuse <= 1000) : MsOk (markS q).2 /\ (markS q).2.length = q.2.length := by
 obtain ⟨a, b, c⟩ := supsS_keeps (q := ({q.1 with gen := q.1.gen + 1}, q.2)) h hf q.2.length
 obtain ⟨a2, _, c2⟩ := syncS_keeps (q := supsS ({q.1 with gen := q.1.gen + 1}, q.2) q.2.length) a b.2.2.2.2.2.2.2.2.2.1 q.2.length
 exact ⟨a2, c2.trans c⟩

def spareT (ds : List (Int × List Int)) (q : ArrN × List MemD) : (ArrN × List MemD) × Int := (turnQ (spareK q.1 q.2 ds) (spareA q) q, turnC (spareK q.1 q.2 ds) (spareA q))
theorem runT_one (f : StM) (q : ArrN × List MemD) : runT [f] q = f q := by
 unfold runT
 by_cases h : (f q).2 = 0
 . rw [if_pos h]
   exact Prod.ext rfl h.symm
 rw [if_neg h]
def spareO (x : ArrN) (ms : List MemD) (ds : List (Int × List Int)) : ArrN × List MemD := (spareT ds (x, ms)).1
def spareC (x : ArrN) (ms : List MemD) (ds : List (Int × List Int)) : Int := (spareT ds (x, ms)).2
theorem spare_arr {x : ArrN} {ms : List MemD} {ds : List (Int × List Int)} (h : spareK x ms ds = 0) : arrB {x with built := 0} (ms.set x.lost.toNat (spareM x.s)) ds = true := by
 obtain ⟨ha, _, hl, hb, _⟩ := spare_zero h
 obtain ⟨p1, p2, p3, p4, p5, p6⟩ := arr_split.1 ha
 have g1 := geoB_iff.1 p1
 have h3 := mems_iff.1 p3
 have hlo := arr_lost ha
 have hne := lost_pos (.inl hl)
 have hlt : (x.lost.toNat : Int) = x.lost := by omega
 have hlen : ((newSS (6 + x.s)).length : Int) = 6 + x.s := by unfold newSS; rw [if_pos ⟨by omega, by omega⟩, List.length_replicate]; omega
 refine arr_split.2 ⟨p1, p2, ?_, p4, ?_, p6⟩
 . refine mems_set p3 rfl rfl (memB_new (by omega) (by omega)) hlen (fun h => by cases h) (fun i e hne he hf => ?_)
   exact (h3.1 i e he).2.2 hf
 unfold lostB6 at p5 ⊢
 simp only [Bool.and_eq_true, inB_iff, Bool.or_eq_true, Bool.not_eq_true', decide_eq_true_eq, decide_eq_false_iff_not] at p5 ⊢
 exact ⟨p5.1, ⟨by omega, by omega⟩, .inr trivial⟩
theorem spareA_light {x : ArrN} {ms : List MemD} {ds : List (Int × List Int)} (h : spareK x ms ds = 0) : MsOk (spareA (x, ms)).2 /\ (spareA (x, ms)).2.length = ms.length := by
 have ha := spare_arr h
 obtain ⟨fc, mk, _⟩ := arr_facts ha
 obtain ⟨a, c⟩ := markS_keeps (q := ({x with built := 0}, ms.set x.lost.toNat (spareM x.s))) mk fc
 exact ⟨a, c.trans (by simp)⟩
theorem light_keeps {x : ArrN} {ms : List MemD} {ds : List (Int × List Int)} {q : ArrN × List MemD} (h : arrB x ms ds = true) (hk : MsOk q.2) (hl : q.2.length = ms.length) (hw : wtWrS ds <= 2000000) : wtArr q.2 ds <= 2097152 := by
 have h1 := arr_len h
 have h2 := ms_light hk (by omega)
 unfold wtArr
 omega
theorem spareT_keeps {ds : List (Int × List Int)} {q : ArrN × List MemD} (hd : wtWrS ds <= 2000000) (hw : wtArr q.2 ds <= 2097152) : wtArr (spareT ds q).1.2 ds <= 2097152 := by
 unfold spareT turnQ
 dsimp only
 split
 . rename_i h
   obtain ⟨a, c⟩ := spareA_light h
   exact light_keeps (spare_zero h).1 a c hd
 exact hw
theorem spareO_wt {x : ArrN} {ms : List MemD} {ds : List (Int × List Int)} (hw : wtArr ms ds <= 1048576) : wtArr (spareO x ms ds).2 ds <= 2097152 := by
 unfold spareO spareT turnQ
 dsimp only
 split
 . rename_i h
   obtain ⟨a, c⟩ := spareA_light h
   exact out_light (spare_zero h).1 a c hw
 exact Nat.le_trans hw (by omega)
theorem Stp.from {w w1 w' : World} {B : Nat} {fm fd : List Nat} {ds : List (Int × List Int)} {q : ArrN × List MemD} {c : Int} {e : Ending} (h : Stp w1 B fm fd ds q c e w') (hb : Below w.heap.size w w1) : Stp w B fm fd ds q c e w' := by
 obtain ⟨he, fm', fd', h1, T, h2, h3⟩ := h
 have z := hb.size
 exact ⟨he, fm', fd', h1, ⟨T.os.trans hb.os, T.tape.trans hb.tape, T.output.trans hb.output, Nat.le_trans z T.size, fun k hk hn => (T.block k (by omega) hn).trans (hb.block k hk)⟩, fun b hb => by rcases h2 b hb with h | h; exact .inl h; exact .inr (by omega), fun b hb => by rcases h3 b hb with h | h; exact .inl h; exact .inr (by omega)⟩

theorem perStripe_any (w : World) (n s : Int) (h1 : 3 <= n) (h2 : n <= 5) : Calls Tryz.prog 113 #[.agg #[.int .i64 n, .int .i64 s]] w fun e w' => e = .returned (.int .i64 (n - 1)) /\ Below w.heap.size w w' := by
 have hA := new_below w (.cells #[.int .i64 n, .int .i64 s] 29)
 obtain ⟨k0, k1⟩ := (Gbox.new w 29 n s).cells
 go_enter Tryz.func113, Tryz.ntmps113
 go_wp2
 go_ret
 exact ⟨ret_int (by first | rfl | omega), hA⟩

theorem stripeB_of {n s t : Int} : stripeB n s t = true ↔ geoB n s = true /\ 0 <= t /\ t < s := by unfold stripeB; rw [Bool.and_eq_true, inB_iff]; constructor <;> (rintro ⟨a, b⟩; exact ⟨a, by omega⟩)
theorem stripeB_not {n s t : Int} : stripeB n s t = false ↔ ¬ (geoB n s = true /\ 0 <= t /\ t < s) := by rw [← stripeB_of]; simp

theorem hasStripe_any (w : World) (n s t : Int) : Calls Tryz.prog 112 #[.agg #[.int .i64 n, .int .i64 s], .int .i64 t] w fun e w' => e = .returned (.bool (stripeB n s t)) /\ Below w.heap.size w w' := by
 have hA := new_below w (.cells #[.int .i64 n, .int .i64 s] 29)
 have X := Gbox.new w 29 n s
 obtain ⟨k0, k1⟩ := X.cells
 have zA := X.lt
 go_enter Tryz.func112, Tryz.ntmps112
 go_wp2_with fail
 refine (implGeoOk_any _ _ _).mono ?_
 rintro e w1 ⟨rfl, b1⟩
 have X1 := X.below b1 zA
 obtain ⟨p0, p1⟩ := X1.cells
 have B1 := Below.andThen hA b1
 clear k0 k1 X b1 hA zA
 by_cases hg : geoB n s = true
 . by_cases h1 : 0 <= t
   . by_cases h2 : t < s
     . go_wp2
       go_ret
       exact ⟨ret_bool (by symm; rw [stripeB_of]; exact ⟨hg, h1, h2⟩), B1⟩
     go_wp2
     go_ret
     exact ⟨ret_bool (by first | (exact (stripeB_not.2 (by omega)).symm) | (rw [stripeB_not.2 (by omega)]; simp; omega)), B1⟩
   go_wp2
   go_ret
   exact ⟨ret_bool (by first | (exact (stripeB_not.2 (by omega)).symm) | (rw [stripeB_not.2 (by omega)]; simp; omega)), B1⟩
 have hg : geoB n s = false := by simpa using hg
 go_wp2
 go_ret
 exact ⟨ret_bool (by symm; rw [stripeB_not]; simp [hg]), B1⟩

def dataN (x : Int) : Int := if 0 <= x /\ x <= 1099511627776 then x + 6 else -1
theorem implDataAt_any (w : World) (x : Int) : Calls Tryz.prog 133 #[.int .i64 x] w fun e w' => e = .returned (.int .i64 (dataN x)) /\ w' = w := by
 by_cases h : 0 <= x /\ x <= 1099511627776
 . have e2 : IntKind.i64.wrap (x + 2) = x + 2 := IntWalk.i64_in _ (by omega)
   have e4 : IntKind.i64.wrap (x + 2 + 4) = x + 2 + 4 := IntWalk.i64_in _ (by omega)
   have e3 : IntKind.i64.wrap (6 + x) = 6 + x := IntWalk.i64_in _ (by omega)
   have hv : dataN x = x + 6 := by unfold dataN; rw [if_pos h]
   have hi : inB x 0 1099511627776 = true := by unfold inB; simp; omega
   go_enter Tryz.func133, Tryz.ntmps133
   go_wp2_with fail
   refine (within_any _ _ _ _).mono ?_
   rintro e w1 ⟨rfl, rfl⟩
   rw [hi]
   go_wp2
   go_ret
   exact ⟨ret_int (by rw [hv]; omega), rfl⟩
 have hv : dataN x = -1 := by unfold dataN; rw [if_neg h]
 have hi : inB x 0 1099511627776 = false := by unfold inB; simp; omega
 go_enter Tryz.func133, Tryz.ntmps133
 go_wp2_with fail
 refine (within_any _ _ _ _).mono ?_
 rintro e w1 ⟨rfl, rfl⟩
 rw [hi]
 go_wp2
 go_ret
 exact ⟨ret_int (by first | (rw [hv]; done) | rfl | omega), rfl⟩

def recB6 (x : ArrN) : Bool := inB x.seq 0 60000 && (inB x.tail 0 60000 && inB (x.seq - x.tail) 0 4)
theorem lost_same6 {x : ArrN} (hg : geoB x.n x.s = true) : lostB x.n x.s x.lost x.built = lostB6 x := by
 obtain ⟨g1, g2, g3, g4⟩ := geoB_iff.1 hg
 rw [Bool.eq_iff_iff, lostB_iff]
 unfold lostB6
 simp only [Bool.and_eq_true, inB_iff, Bool.or_eq_true, Bool.not_eq_true', decide_eq_false_iff_not, decide_eq_true_eq]
 omega
theorem seq_same6 (x : ArrN) : seqB6 x = (inB x.gen 0 60000 && (inB x.fuse (-1) 1000 && recB6 x)) := by
 rw [Bool.eq_iff_iff]
 unfold seqB6 recB6
 simp only [Bool.and_eq_true, inB_iff, decide_eq_true_eq]
 omega
theorem arr_same6 {x : ArrN} {ms : List MemD} {ds : List (Int × List Int)} (hg : geoB x.n x.s = true) : arrB x ms ds = (inB x.id 1 60000 && (lostB x.n x.s x.lost x.built && (inB x.gen 0 60000 && (inB x.fuse (-1) 1000 && (memsB x ms && (recB6 x && entsB x ds)))))) := by
 unfold arrB
 rw [hg, lost_same6 hg, seq_same6]
 cases inB x.id 1 60000 <;> cases lostB6 x <;> cases inB x.gen 0 60000 <;> cases inB x.fuse (-1) 1000 <;> cases memsB x ms <;> cases recB6 x <;> cases entsB x ds <;> rfl
theorem stripe_in6 {x : ArrN} {y : Int} (hg : geoB x.n x.s = true) : stripeB x.n x.s y = inB y 0 (x.s - 1) := by unfold stripeB; rw [hg]; rfl
theorem sec_all6 {zs : List Int} (h : zs.length <= 12) : secB zs = allW zs := by unfold secB; simp [h]
theorem entAt_6 {x : ArrN} {ds : List (Int × List Int)} {p : Nat} {y : Int} {zs : List Int} {q : Int × List Int} (hq : ds[p]? = some q) (h : y <= q.1) : entAt x ds (p + 1) (y, zs) = false := by
 have : ds.getD (p + 1 - 1) (0, []) = q := by rw [Nat.add_sub_cancel, List.getD_eq_getElem?_getD, hq]; rfl
 unfold entAt
 rw [this]
 have h2 : ¬ q.1 < y := by omega
 simp [h2]

theorem sectorsOf_any (w : World) (n s : Int) (hs : 1 <= s /\ s <= 8) : Calls Tryz.prog 111 #[.agg #[.int .i64 n, .int .i64 s]] w fun e w' => e = .returned (.int .i64 (6 + s)) /\ Below w.heap.size w w' := by
 have hA := new_below w (.cells #[.int .i64 n, .int .i64 s] 29)
 obtain ⟨k0, k1⟩ := (Gbox.new w 29 n s).cells
 have hd : dataN s = 6 + s := by unfold dataN; split <;> omega
 have HD := hidden hd
 clear hd
 go_enter Tryz.func111, Tryz.ntmps111
 go_wp2_with fail
 refine (implDataAt_any _ _).mono ?_
 rintro e w1 ⟨rfl, h1⟩
 subst h1
 rw [HD.out]
 go_wp2
 go_ret
 exact ⟨rfl, hA⟩

theorem memsOk_any (w : World) (E F : TypeId) (x : ArrN) (am ad : Option Addr) (nm cm nd cd : Nat) (ms : List MemD) (h0 : (tMemS E F).Rd w [.slice am nm cm] ms) (hw : wtMemS ms <= 2097152) (hg : geoB x.n x.s = true) :
 Calls Tryz.prog 72 #[.agg #[.int .i64 x.id, .int .i64 x.n, .int .i64 x.s, .slice am nm cm, .int .i64 x.lost, .int .i64 x.built, .int .i64 x.seq, .int .i64 x.tail, .int .i64 x.gen, .slice ad nd cd, .int .i64 x.fuse, .bool x.down, .bool x.broken]] w fun e w' => e = .returned (.bool (memsB x ms)) /\ Below w.heap.size w w' := by
 obtain ⟨hl, hc, hm⟩ := row_length h0
 obtain ⟨g1, g2, g3, g4⟩ := geoB_iff.1 hg
 have hA := new_below w (.cells #[.int .i64 x.id, .int .i64 x.n, .int .i64 x.s, .slice am nm cm, .int .i64 x.lost, .int .i64 x.built, .int .i64 x.seq, .int .i64 x.tail, .int .i64 x.gen, .slice ad nd cd, .int .i64 x.fuse, .bool x.down, .bool x.broken] 33)
 have X := Box.new w 33 #[.int .i64 x.id, .int .i64 x.n, .int .i64 x.s, .slice am nm cm, .int .i64 x.lost, .int .i64 x.built, .int .i64 x.seq, .int .i64 x.tail, .int .i64 x.gen, .slice ad nd cd, .int .i64 x.fuse, .bool x.down, .bool x.broken]
 have zA := X.lt
 have hnm : nm <= 2097152 := by unfold wtMemS at hw; omega
 have h1 := h0.below hA
 obtain ⟨k0, k1, k2, k3, k4, k5, k6, k7, k8, k9, k10, k11, k12⟩ := X.cells13
 by_cases hN : (nm : Int) = x.n
 . have hN1 : ((nm : Int) == x.n) = true := by simpa using hN
   have hN2 : ((nm : Int) != x.n) = false := by simpa using hN
   have HN := hidden hN
   clear hN
   go_enter Tryz.func72, Tryz.ntmps72
   go_wp2
   generalize w.alloc (.cells #[.int .i64 x.id, .int .i64 x.n, .int .i64 x.s, .slice am nm cm, .int .i64 x.lost, .int .i64 x.built, .int .i64 x.seq, .int .i64 x.tail, .int .i64 x.gen, .slice ad nd cd, .int .i64 x.fuse, .bool x.down, .bool x.broken] 33) = W at hA X zA h1 k0 k1 k2 k3 k4 k5 k6 k7 k8 k9 k10 k11 k12 ⊢
   clear k0 k1 k2 k3 k4 k5 k6 k7 k8 k9 k10 k11 k12
   go_loopw [15] (fun i wr => ∃ j : Nat, j <= nm /\ i = .int .i64 j /\ (∀ (q : Nat) (m : MemD), q < j -> ms[q]? = some m -> memAt x q m = true) /\ Below W.heap.size W wr) (fun i _ => nm - (intOf i).toNat)
   case atStart => exact ⟨0, Nat.zero_le _, rfl, fun q m hq => by omega, Below.refl _ _⟩
   obtain ⟨j, hj, rfl, hall, hb⟩ := hrel
   have Xr := X.below hb zA
   by_cases hjn : j < nm
   . rcases quads_at rfl h1 with h0' | ⟨b, off, rfl, hbl, hcs⟩
     . omega
     have hdj : ms[j]? = some (ms[j]'(by omega)) := List.getElem?_eq_getElem (by omega)
     generalize ms[j]'(by omega) = m at hdj
     obtain ⟨v0, v1, v2, v3, hv0, hv1, hv2, hv3, hrv⟩ := hcs j m hdj
     obtain ⟨a0, c0, a1, c1, a3, c3, ss, cs, f, bs, rfl, rfl, rfl, rfl, rfl, r0, r1, r3⟩ := mem_at hrv
     have u0 := (hb.cell (p := ⟨b, off + j * 4, none⟩) hbl).trans hv0
     have u1 := (hb.cell (p := ⟨b, off + j * 4 + 1, none⟩) hbl).trans hv1
     have u2 := (hb.cell (p := ⟨b, off + j * 4 + 2, none⟩) hbl).trans hv2
     have u3 := (hb.cell (p := ⟨b, off + j * 4 + 3, none⟩) hbl).trans hv3
     have i1 : (0 : Int) <= (j : Int) := by omega
     have i2 : (j : Int) < (nm : Int) := by omega
     have hwm := Nat.le_trans (inner_leM hdj) hw
     have HDJ := hidden hdj
     clear hcs hv0 hv1 hv2 hv3 hrv hdj
     have b1 := new_below wr (.cells #[.slice a0 ss.length c0, .slice a1 cs.length c1, .bool f, .slice a3 bs.length c3] 51)
     have Y1 := Box.new wr 51 #[.slice a0 ss.length c0, .slice a1 cs.length c1, .bool f, .slice a3 bs.length c3]
     have X1 := Xr.below b1 Xr.lt
     have R0 := (r0.below hb).below b1
     have R1 := (r1.below hb).below b1
     have R3 := (r3.below hb).below b1
     have B1 := hb.trans (b1.mono hb.size)
     clear r0 r1 r3 b1
     obtain ⟨y0, y1, y2, y3⟩ := Y1.cells4
     obtain ⟨e0, e1, e2, e3, e4, e5, e6, e7, e8, e9, e10, e11, e12⟩ := X1.cells13
     have zy := Y1.lt
     have zx := X1.lt
     clear e0 e3 e5 e6 e7 e8 e9 e10 e11
     cases hM : memB ss cs bs
     . skip
       go_wp2_with fail
       generalize wr.alloc (.cells #[.slice a0 ss.length c0, .slice a1 cs.length c1, .bool f, .slice a3 bs.length c3] 51) = w1 at X1 Y1 R0 R1 R3 B1 y0 y1 y2 y3 e1 e2 e4 e12 zy zx ⊢
       refine wp_region_held_drew (S := fun w' => w'.cell? ⟨wr.heap.size, 0, none⟩ = some (.slice a0 ss.length c0) /\ w'.cell? ⟨wr.heap.size, 1, none⟩ = some (.slice a1 cs.length c1) /\ w'.cell? ⟨wr.heap.size, 2, none⟩ = some (.bool f) /\ w'.cell? ⟨wr.heap.size, 3, none⟩ = some (.slice a3 bs.length c3) /\ w'.cell? ⟨w.heap.size, 1, none⟩ = some (.int .i64 x.n) /\ w'.cell? ⟨w.heap.size, 2, none⟩ = some (.int .i64 x.s)) (by kernel_rfl) ?_ (fun hHeld => ?_)
       . exact ⟨y0, y1, y2, y3, e1, e2⟩
       refine held_t 0 hHeld ?_
       refine held_one (i := 1) (by kernel_rfl) rfl (by kernel_rfl) (fun K hK => ?_)
       go_simp
       refine (implMemOk_any _ E _ _ _ _ _ _ _ _ _ ss cs f bs R0.drew R1.drew R3.drew hwm).mono ?_
       rintro e w2 ⟨rfl, b2⟩
       rw [hM]
       have b2' : Below w1.heap.size w1 w2 := (Below.refl w1.heap.size w1).drew.trans b2
       clear b2
       go_wp2_with fail
       clear hHeld
       refine hK.out _ _ ?_ (fun hHeld => ?_)
       . exact ⟨(b2'.cell (p := ⟨wr.heap.size, 0, none⟩) zy).trans y0, (b2'.cell (p := ⟨wr.heap.size, 1, none⟩) zy).trans y1, (b2'.cell (p := ⟨wr.heap.size, 2, none⟩) zy).trans y2, (b2'.cell (p := ⟨wr.heap.size, 3, none⟩) zy).trans y3, (b2'.cell (p := ⟨w.heap.size, 1, none⟩) zx).trans e1, (b2'.cell (p := ⟨w.heap.size, 2, none⟩) zx).trans e2⟩
       clear hK K
       refine held_t 2 hHeld ?_
       refine held_t 3 hHeld ?_
       refine held_p 4 hHeld ?_
       refine held_p 5 hHeld ?_
       refine held_p 6 hHeld ?_
       refine held_p 7 hHeld ?_
       refine held_p 8 hHeld ?_
       refine held_none (i := 9) (by kernel_rfl) rfl (by kernel_rfl) hHeld ?_
       simp only [Act.put, List.setIfInBounds_toArray, List.set_cons_zero, List.set_cons_succ]
       refine held_p 10 hHeld ?_
       refine held_t 11 hHeld ?_
       refine wpAnyH_done (by kernel_rfl) ?_ _
       clear hHeld
       have HB := hidden (hA.trans ((B1.trans (b2'.mono B1.size)).mono hA.size))
       go_wp2
       go_ret
       exact ⟨ret_bool (by rw [show memsB x ms = false from (by unfold memsB; rw [allIx_no HDJ.out (by unfold memAt; simp [hM])]; rfl)]), HB.out⟩
     by_cases hS : (ss.length : Int) = 6 + x.s
     . have hS1 : ((ss.length : Int) == 6 + x.s) = true := by simpa using hS
       have hS2 : ((ss.length : Int) != 6 + x.s) = false := by simpa using hS
       have HS := hidden hS
       clear hS
       cases f
       . skip
         go_wp2_with fail
         generalize wr.alloc (.cells #[.slice a0 ss.length c0, .slice a1 cs.length c1, .bool false, .slice a3 bs.length c3] 51) = w1 at X1 Y1 R0 R1 R3 B1 y0 y1 y2 y3 e1 e2 e4 e12 zy zx ⊢
         refine wp_region_held_drew (S := fun w' => w'.cell? ⟨wr.heap.size, 0, none⟩ = some (.slice a0 ss.length c0) /\ w'.cell? ⟨wr.heap.size, 1, none⟩ = some (.slice a1 cs.length c1) /\ w'.cell? ⟨wr.heap.size, 2, none⟩ = some (.bool false) /\ w'.cell? ⟨wr.heap.size, 3, none⟩ = some (.slice a3 bs.length c3) /\ w'.cell? ⟨w.heap.size, 1, none⟩ = some (.int .i64 x.n) /\ w'.cell? ⟨w.heap.size, 2, none⟩ = some (.int .i64 x.s)) (by kernel_rfl) ?_ (fun hHeld => ?_)
         . exact ⟨y0, y1, y2, y3, e1, e2⟩
         refine held_t 0 hHeld ?_
         refine held_one (i := 1) (by kernel_rfl) rfl (by kernel_rfl) (fun K hK => ?_)
         go_simp
         refine (implMemOk_any _ E _ _ _ _ _ _ _ _ _ ss cs false bs R0.drew R1.drew R3.drew hwm).mono ?_
         rintro e w2 ⟨rfl, b2⟩
         rw [hM]
         have b2' : Below w1.heap.size w1 w2 := (Below.refl w1.heap.size w1).drew.trans b2
         clear b2
         go_wp2_with fail
         clear hHeld
         refine hK.out _ _ ?_ (fun hHeld => ?_)
         . exact ⟨(b2'.cell (p := ⟨wr.heap.size, 0, none⟩) zy).trans y0, (b2'.cell (p := ⟨wr.heap.size, 1, none⟩) zy).trans y1, (b2'.cell (p := ⟨wr.heap.size, 2, none⟩) zy).trans y2, (b2'.cell (p := ⟨wr.heap.size, 3, none⟩) zy).trans y3, (b2'.cell (p := ⟨w.heap.size, 1, none⟩) zx).trans e1, (b2'.cell (p := ⟨w.heap.size, 2, none⟩) zx).trans e2⟩
         clear hK K
         refine held_t 2 hHeld ?_
         refine held_t 3 hHeld ?_
         refine held_t 4 hHeld ?_
         refine held_t 5 hHeld ?_
         refine held_t 6 hHeld ?_
         refine held_t 7 hHeld ?_
         refine held_t 8 hHeld ?_
         refine held_one (i := 9) (by kernel_rfl) rfl (by kernel_rfl) (fun K hK => ?_)
         go_simp
         refine (sectorsOf_any _ x.n x.s ⟨g3, g4⟩).mono ?_
         rintro e w3 ⟨rfl, b3⟩
         have b3' : Below w1.heap.size w1 w3 := Below.andThen b2' b3
         clear b3
         go_wp2_with fail
         clear hHeld
         refine hK.out _ _ ?_ (fun hHeld => ?_)
         . exact ⟨(b3'.cell (p := ⟨wr.heap.size, 0, none⟩) zy).trans y0, (b3'.cell (p := ⟨wr.heap.size, 1, none⟩) zy).trans y1, (b3'.cell (p := ⟨wr.heap.size, 2, none⟩) zy).trans y2, (b3'.cell (p := ⟨wr.heap.size, 3, none⟩) zy).trans y3, (b3'.cell (p := ⟨w.heap.size, 1, none⟩) zx).trans e1, (b3'.cell (p := ⟨w.heap.size, 2, none⟩) zx).trans e2⟩
         clear hK K
         refine held_t 10 hHeld ?_
         refine held_t 11 hHeld ?_
         refine wpAnyH_done (by kernel_rfl) ?_ _
         clear hHeld
         have n0 := (b3'.cell (p := ⟨w.heap.size, 4, none⟩) zx).trans e4
         have n1 := (b3'.cell (p := ⟨w.heap.size, 12, none⟩) zx).trans e12
         have n2 := (b3'.cell (p := ⟨wr.heap.size, 2, none⟩) zy).trans y2
         have HB := hidden (B1.trans (b3'.mono B1.size))
         have hat : memAt x j (ss, cs, false, bs) = true := (by unfold memAt; simp [hM, HS.out])
         go_wp2
         go_roundw
         case rel => exact ⟨j + 1, by omega, by go_num, fun q m hq hm' => by
          rcases Nat.lt_or_ge q j with h | h
          . exact hall q m h hm'
          obtain rfl : q = j := by omega
          rw [HDJ.out] at hm'
          cases hm'
          exact hat, HB.out⟩
         case measure => simp [intOf]; omega
       by_cases hL : (j : Int) = x.lost
       . have hL1 : ((j : Int) == x.lost) = true := by simpa using hL
         have hL2 : ((j : Int) != x.lost) = false := by simpa using hL
         have HL := hidden hL
         clear hL
         go_wp2_with fail
         generalize wr.alloc (.cells #[.slice a0 ss.length c0, .slice a1 cs.length c1, .bool true, .slice a3 bs.length c3] 51) = w1 at X1 Y1 R0 R1 R3 B1 y0 y1 y2 y3 e1 e2 e4 e12 zy zx ⊢
         refine wp_region_held_drew (S := fun w' => w'.cell? ⟨wr.heap.size, 0, none⟩ = some (.slice a0 ss.length c0) /\ w'.cell? ⟨wr.heap.size, 1, none⟩ = some (.slice a1 cs.length c1) /\ w'.cell? ⟨wr.heap.size, 2, none⟩ = some (.bool true) /\ w'.cell? ⟨wr.heap.size, 3, none⟩ = some (.slice a3 bs.length c3) /\ w'.cell? ⟨w.heap.size, 1, none⟩ = some (.int .i64 x.n) /\ w'.cell? ⟨w.heap.size, 2, none⟩ = some (.int .i64 x.s)) (by kernel_rfl) ?_ (fun hHeld => ?_)
         . exact ⟨y0, y1, y2, y3, e1, e2⟩
         refine held_t 0 hHeld ?_
         refine held_one (i := 1) (by kernel_rfl) rfl (by kernel_rfl) (fun K hK => ?_)
         go_simp
         refine (implMemOk_any _ E _ _ _ _ _ _ _ _ _ ss cs true bs R0.drew R1.drew R3.drew hwm).mono ?_
         rintro e w2 ⟨rfl, b2⟩
         rw [hM]
         have b2' : Below w1.heap.size w1 w2 := (Below.refl w1.heap.size w1).drew.trans b2
         clear b2
         go_wp2_with fail
         clear hHeld
         refine hK.out _ _ ?_ (fun hHeld => ?_)
         . exact ⟨(b2'.cell (p := ⟨wr.heap.size, 0, none⟩) zy).trans y0, (b2'.cell (p := ⟨wr.heap.size, 1, none⟩) zy).trans y1, (b2'.cell (p := ⟨wr.heap.size, 2, none⟩) zy).trans y2, (b2'.cell (p := ⟨wr.heap.size, 3, none⟩) zy).trans y3, (b2'.cell (p := ⟨w.heap.size, 1, none⟩) zx).trans e1, (b2'.cell (p := ⟨w.heap.size, 2, none⟩) zx).trans e2⟩
         clear hK K
         refine held_t 2 hHeld ?_
         refine held_t 3 hHeld ?_
         refine held_t 4 hHeld ?_
         refine held_t 5 hHeld ?_
         refine held_t 6 hHeld ?_
         refine held_t 7 hHeld ?_
         refine held_t 8 hHeld ?_
         refine held_one (i := 9) (by kernel_rfl) rfl (by kernel_rfl) (fun K hK => ?_)
         go_simp
         refine (sectorsOf_any _ x.n x.s ⟨g3, g4⟩).mono ?_
         rintro e w3 ⟨rfl, b3⟩
         have b3' : Below w1.heap.size w1 w3 := Below.andThen b2' b3
         clear b3
         go_wp2_with fail
         clear hHeld
         refine hK.out _ _ ?_ (fun hHeld => ?_)
         . exact ⟨(b3'.cell (p := ⟨wr.heap.size, 0, none⟩) zy).trans y0, (b3'.cell (p := ⟨wr.heap.size, 1, none⟩) zy).trans y1, (b3'.cell (p := ⟨wr.heap.size, 2, none⟩) zy).trans y2, (b3'.cell (p := ⟨wr.heap.size, 3, none⟩) zy).trans y3, (b3'.cell (p := ⟨w.heap.size, 1, none⟩) zx).trans e1, (b3'.cell (p := ⟨w.heap.size, 2, none⟩) zx).trans e2⟩
         clear hK K
         refine held_t 10 hHeld ?_
         refine held_t 11 hHeld ?_
         refine wpAnyH_done (by kernel_rfl) ?_ _
         clear hHeld
         have n0 := (b3'.cell (p := ⟨w.heap.size, 4, none⟩) zx).trans e4
         have n1 := (b3'.cell (p := ⟨w.heap.size, 12, none⟩) zx).trans e12
         have n2 := (b3'.cell (p := ⟨wr.heap.size, 2, none⟩) zy).trans y2
         have HB := hidden (B1.trans (b3'.mono B1.size))
         have hat : memAt x j (ss, cs, true, bs) = true := (by unfold memAt; simp [hM, HS.out, HL.out])
         go_wp2
         go_roundw
         case rel => exact ⟨j + 1, by omega, by go_num, fun q m hq hm' => by
          rcases Nat.lt_or_ge q j with h | h
          . exact hall q m h hm'
          obtain rfl : q = j := by omega
          rw [HDJ.out] at hm'
          cases hm'
          exact hat, HB.out⟩
         case measure => simp [intOf]; omega
       have hL1 : ((j : Int) == x.lost) = false := by simpa using hL
       have hL2 : ((j : Int) != x.lost) = true := by simpa using hL
       have HL := hidden hL
       clear hL
       cases hBr : x.broken
       . rw [hBr] at e12
         go_wp2_with fail
         generalize wr.alloc (.cells #[.slice a0 ss.length c0, .slice a1 cs.length c1, .bool true, .slice a3 bs.length c3] 51) = w1 at X1 Y1 R0 R1 R3 B1 y0 y1 y2 y3 e1 e2 e4 e12 zy zx ⊢
         refine wp_region_held_drew (S := fun w' => w'.cell? ⟨wr.heap.size, 0, none⟩ = some (.slice a0 ss.length c0) /\ w'.cell? ⟨wr.heap.size, 1, none⟩ = some (.slice a1 cs.length c1) /\ w'.cell? ⟨wr.heap.size, 2, none⟩ = some (.bool true) /\ w'.cell? ⟨wr.heap.size, 3, none⟩ = some (.slice a3 bs.length c3) /\ w'.cell? ⟨w.heap.size, 1, none⟩ = some (.int .i64 x.n) /\ w'.cell? ⟨w.heap.size, 2, none⟩ = some (.int .i64 x.s)) (by kernel_rfl) ?_ (fun hHeld => ?_)
         . exact ⟨y0, y1, y2, y3, e1, e2⟩
         refine held_t 0 hHeld ?_
         refine held_one (i := 1) (by kernel_rfl) rfl (by kernel_rfl) (fun K hK => ?_)
         go_simp
         refine (implMemOk_any _ E _ _ _ _ _ _ _ _ _ ss cs true bs R0.drew R1.drew R3.drew hwm).mono ?_
         rintro e w2 ⟨rfl, b2⟩
         rw [hM]
         have b2' : Below w1.heap.size w1 w2 := (Below.refl w1.heap.size w1).drew.trans b2
         clear b2
         go_wp2_with fail
         clear hHeld
         refine hK.out _ _ ?_ (fun hHeld => ?_)
         . exact ⟨(b2'.cell (p := ⟨wr.heap.size, 0, none⟩) zy).trans y0, (b2'.cell (p := ⟨wr.heap.size, 1, none⟩) zy).trans y1, (b2'.cell (p := ⟨wr.heap.size, 2, none⟩) zy).trans y2, (b2'.cell (p := ⟨wr.heap.size, 3, none⟩) zy).trans y3, (b2'.cell (p := ⟨w.heap.size, 1, none⟩) zx).trans e1, (b2'.cell (p := ⟨w.heap.size, 2, none⟩) zx).trans e2⟩
         clear hK K
         refine held_t 2 hHeld ?_
         refine held_t 3 hHeld ?_
         refine held_t 4 hHeld ?_
         refine held_t 5 hHeld ?_
         refine held_t 6 hHeld ?_
         refine held_t 7 hHeld ?_
         refine held_t 8 hHeld ?_
         refine held_one (i := 9) (by kernel_rfl) rfl (by kernel_rfl) (fun K hK => ?_)
         go_simp
         refine (sectorsOf_any _ x.n x.s ⟨g3, g4⟩).mono ?_
         rintro e w3 ⟨rfl, b3⟩
         have b3' : Below w1.heap.size w1 w3 := Below.andThen b2' b3
         clear b3
         go_wp2_with fail
         clear hHeld
         refine hK.out _ _ ?_ (fun hHeld => ?_)
         . exact ⟨(b3'.cell (p := ⟨wr.heap.size, 0, none⟩) zy).trans y0, (b3'.cell (p := ⟨wr.heap.size, 1, none⟩) zy).trans y1, (b3'.cell (p := ⟨wr.heap.size, 2, none⟩) zy).trans y2, (b3'.cell (p := ⟨wr.heap.size, 3, none⟩) zy).trans y3, (b3'.cell (p := ⟨w.heap.size, 1, none⟩) zx).trans e1, (b3'.cell (p := ⟨w.heap.size, 2, none⟩) zx).trans e2⟩
         clear hK K
         refine held_t 10 hHeld ?_
         refine held_t 11 hHeld ?_
         refine wpAnyH_done (by kernel_rfl) ?_ _
         clear hHeld
         have n0 := (b3'.cell (p := ⟨w.heap.size, 4, none⟩) zx).trans e4
         have n1 := (b3'.cell (p := ⟨w.heap.size, 12, none⟩) zx).trans e12
         have n2 := (b3'.cell (p := ⟨wr.heap.size, 2, none⟩) zy).trans y2
         have HB := hidden (hA.trans ((B1.trans (b3'.mono B1.size)).mono hA.size))
         go_wp2
         go_ret
         exact ⟨ret_bool (by rw [show memsB x ms = false from (by unfold memsB; rw [allIx_no HDJ.out (by unfold memAt; simp [HL.out, hBr])]; rfl)]), HB.out⟩
       rw [hBr] at e12
       go_wp2_with fail
       generalize wr.alloc (.cells #[.slice a0 ss.length c0, .slice a1 cs.length c1, .bool true, .slice a3 bs.length c3] 51) = w1 at X1 Y1 R0 R1 R3 B1 y0 y1 y2 y3 e1 e2 e4 e12 zy zx ⊢
       refine wp_region_held_drew (S := fun w' => w'.cell? ⟨wr.heap.size, 0, none⟩ = some (.slice a0 ss.length c0) /\ w'.cell? ⟨wr.heap.size, 1, none⟩ = some (.slice a1 cs.length c1) /\ w'.cell? ⟨wr.heap.size, 2, none⟩ = some (.bool true) /\ w'.cell? ⟨wr.heap.size, 3, none⟩ = some (.slice a3 bs.length c3) /\ w'.cell? ⟨w.heap.size, 1, none⟩ = some (.int .i64 x.n) /\ w'.cell? ⟨w.heap.size, 2, none⟩ = some (.int .i64 x.s)) (by kernel_rfl) ?_ (fun hHeld => ?_)
       . exact ⟨y0, y1, y2, y3, e1, e2⟩
       refine held_t 0 hHeld ?_
       refine held_one (i := 1) (by kernel_rfl) rfl (by kernel_rfl) (fun K hK => ?_)
       go_simp
       refine (implMemOk_any _ E _ _ _ _ _ _ _ _ _ ss cs true bs R0.drew R1.drew R3.drew hwm).mono ?_
       rintro e w2 ⟨rfl, b2⟩
       rw [hM]
       have b2' : Below w1.heap.size w1 w2 := (Below.refl w1.heap.size w1).drew.trans b2
       clear b2
       go_wp2_with fail
       clear hHeld
       refine hK.out _ _ ?_ (fun hHeld => ?_)
       . exact ⟨(b2'.cell (p := ⟨wr.heap.size, 0, none⟩) zy).trans y0, (b2'.cell (p := ⟨wr.heap.size, 1, none⟩) zy).trans y1, (b2'.cell (p := ⟨wr.heap.size, 2, none⟩) zy).trans y2, (b2'.cell (p := ⟨wr.heap.size, 3, none⟩) zy).trans y3, (b2'.cell (p := ⟨w.heap.size, 1, none⟩) zx).trans e1, (b2'.cell (p := ⟨w.heap.size, 2, none⟩) zx).trans e2⟩
       clear hK K
       refine held_t 2 hHeld ?_
       refine held_t 3 hHeld ?_
       refine held_t 4 hHeld ?_
       refine held_t 5 hHeld ?_
       refine held_t 6 hHeld ?_
       refine held_t 7 hHeld ?_
       refine held_t 8 hHeld ?_
       refine held_one (i := 9) (by kernel_rfl) rfl (by kernel_rfl) (fun K hK => ?_)
       go_simp
       refine (sectorsOf_any _ x.n x.s ⟨g3, g4⟩).mono ?_
       rintro e w3 ⟨rfl, b3⟩
       have b3' : Below w1.heap.size w1 w3 := Below.andThen b2' b3
       clear b3
       go_wp2_with fail
       clear hHeld
       refine hK.out _ _ ?_ (fun hHeld => ?_)
       . exact ⟨(b3'.cell (p := ⟨wr.heap.size, 0, none⟩) zy).trans y0, (b3'.cell (p := ⟨wr.heap.size, 1, none⟩) zy).trans y1, (b3'.cell (p := ⟨wr.heap.size, 2, none⟩) zy).trans y2, (b3'.cell (p := ⟨wr.heap.size, 3, none⟩) zy).trans y3, (b3'.cell (p := ⟨w.heap.size, 1, none⟩) zx).trans e1, (b3'.cell (p := ⟨w.heap.size, 2, none⟩) zx).trans e2⟩
       clear hK K
       refine held_t 10 hHeld ?_
       refine held_t 11 hHeld ?_
       refine wpAnyH_done (by kernel_rfl) ?_ _
       clear hHeld
       have n0 := (b3'.cell (p := ⟨w.heap.size, 4, none⟩) zx).trans e4
       have n1 := (b3'.cell (p := ⟨w.heap.size, 12, none⟩) zx).trans e12
       have n2 := (b3'.cell (p := ⟨wr.heap.size, 2, none⟩) zy).trans y2
       have HB := hidden (B1.trans (b3'.mono B1.size))
       have hat : memAt x j (ss, cs, true, bs) = true := (by unfold memAt; simp [hM, HS.out, hBr])
       go_wp2
       go_roundw
       case rel => exact ⟨j + 1, by omega, by go_num, fun q m hq hm' => by
        rcases Nat.lt_or_ge q j with h | h
        . exact hall q m h hm'
        obtain rfl : q = j := by omega
        rw [HDJ.out] at hm'
        cases hm'
        exact hat, HB.out⟩
       case measure => simp [intOf]; omega
     have hS1 : ((ss.length : Int) == 6 + x.s) = false := by simpa using hS
     have hS2 : ((ss.length : Int) != 6 + x.s) = true := by simpa using hS
     have HS := hidden hS
     clear hS
     go_wp2_with fail
     generalize wr.alloc (.cells #[.slice a0 ss.length c0, .slice a1 cs.length c1, .bool f, .slice a3 bs.length c3] 51) = w1 at X1 Y1 R0 R1 R3 B1 y0 y1 y2 y3 e1 e2 e4 e12 zy zx ⊢
     refine wp_region_held_drew (S := fun w' => w'.cell? ⟨wr.heap.size, 0, none⟩ = some (.slice a0 ss.length c0) /\ w'.cell? ⟨wr.heap.size, 1, none⟩ = some (.slice a1 cs.length c1) /\ w'.cell? ⟨wr.heap.size, 2, none⟩ = some (.bool f) /\ w'.cell? ⟨wr.heap.size, 3, none⟩ = some (.slice a3 bs.length c3) /\ w'.cell? ⟨w.heap.size, 1, none⟩ = some (.int .i64 x.n) /\ w'.cell? ⟨w.heap.size, 2, none⟩ = some (.int .i64 x.s)) (by kernel_rfl) ?_ (fun hHeld => ?_)
     . exact ⟨y0, y1, y2, y3, e1, e2⟩
     refine held_t 0 hHeld ?_
     refine held_one (i := 1) (by kernel_rfl) rfl (by kernel_rfl) (fun K hK => ?_)
     go_simp
     refine (implMemOk_any _ E _ _ _ _ _ _ _ _ _ ss cs f bs R0.drew R1.drew R3.drew hwm).mono ?_
     rintro e w2 ⟨rfl, b2⟩
     rw [hM]
     have b2' : Below w1.heap.size w1 w2 := (Below.refl w1.heap.size w1).drew.trans b2
     clear b2
     go_wp2_with fail
     clear hHeld
     refine hK.out _ _ ?_ (fun hHeld => ?_)
     . exact ⟨(b2'.cell (p := ⟨wr.heap.size, 0, none⟩) zy).trans y0, (b2'.cell (p := ⟨wr.heap.size, 1, none⟩) zy).trans y1, (b2'.cell (p := ⟨wr.heap.size, 2, none⟩) zy).trans y2, (b2'.cell (p := ⟨wr.heap.size, 3, none⟩) zy).trans y3, (b2'.cell (p := ⟨w.heap.size, 1, none⟩) zx).trans e1, (b2'.cell (p := ⟨w.heap.size, 2, none⟩) zx).trans e2⟩
     clear hK K
     refine held_t 2 hHeld ?_
     refine held_t 3 hHeld ?_
     refine held_t 4 hHeld ?_
     refine held_t 5 hHeld ?_
     refine held_t 6 hHeld ?_
     refine held_t 7 hHeld ?_
     refine held_t 8 hHeld ?_
     refine held_one (i := 9) (by kernel_rfl) rfl (by kernel_rfl) (fun K hK => ?_)
     go_simp
     refine (sectorsOf_any _ x.n x.s ⟨g3, g4⟩).mono ?_
     rintro e w3 ⟨rfl, b3⟩
     have b3' : Below w1.heap.size w1 w3 := Below.andThen b2' b3
     clear b3
     go_wp2_with fail
     clear hHeld
     refine hK.out _ _ ?_ (fun hHeld => ?_)
     . exact ⟨(b3'.cell (p := ⟨wr.heap.size, 0, none⟩) zy).trans y0, (b3'.cell (p := ⟨wr.heap.size, 1, none⟩) zy).trans y1, (b3'.cell (p := ⟨wr.heap.size, 2, none⟩) zy).trans y2, (b3'.cell (p := ⟨wr.heap.size, 3, none⟩) zy).trans y3, (b3'.cell (p := ⟨w.heap.size, 1, none⟩) zx).trans e1, (b3'.cell (p := ⟨w.heap.size, 2, none⟩) zx).trans e2⟩
     clear hK K
     refine held_t 10 hHeld ?_
     refine held_t 11 hHeld ?_
     refine wpAnyH_done (by kernel_rfl) ?_ _
     clear hHeld
     have n0 := (b3'.cell (p := ⟨w.heap.size, 4, none⟩) zx).trans e4
     have n1 := (b3'.cell (p := ⟨w.heap.size, 12, none⟩) zx).trans e12
     have n2 := (b3'.cell (p := ⟨wr.heap.size, 2, none⟩) zy).trans y2
     have HB := hidden (hA.trans ((B1.trans (b3'.mono B1.size)).mono hA.size))
     go_wp2
     go_ret
     exact ⟨ret_bool (by rw [show memsB x ms = false from (by unfold memsB; rw [allIx_no HDJ.out (by unfold memAt; simp [HS.out])]; rfl)]), HB.out⟩
   have e : j = nm := by omega
   subst e
   have hAll : allIx (memAt x) ms = true := allIx_iff.2 (fun q m hq => hall q m (by have := (List.getElem?_eq_some_iff.1 hq).1; omega) hq)
   have HB := hidden (hA.trans (hb.mono hA.size))
   have hR : memsB x ms = true := by unfold memsB; rw [hAll, hl]; simpa using HN.out
   go_wp2
   go_ret
   exact ⟨ret_bool hR.symm, HB.out⟩
 have hN1 : ((nm : Int) == x.n) = false := by simpa using hN
 have hN2 : ((nm : Int) != x.n) = true := by simpa using hN
 have hR : memsB x ms = false := by unfold memsB; rw [hl]; simp [hN]
 have HR := hidden hR
 clear hN hR
 go_enter Tryz.func72, Tryz.ntmps72
 go_wp2
 go_ret
 exact ⟨ret_bool HR.out.symm, hA⟩

theorem dirtyOk_any (w : World) (G : TypeId) (x : ArrN) (am ad : Option Addr) (nm cm nd cd : Nat) (ds : List (Int × List Int)) (h0 : (tWrS G).Rd w [.slice ad nd cd] ds) (hw : wtWrS ds <= 2097152) (hg : geoB x.n x.s = true) :
 Calls Tryz.prog 74 #[.agg #[.int .i64 x.id, .int .i64 x.n, .int .i64 x.s, .slice am nm cm, .int .i64 x.lost, .int .i64 x.built, .int .i64 x.seq, .int .i64 x.tail, .int .i64 x.gen, .slice ad nd cd, .int .i64 x.fuse, .bool x.down, .bool x.broken]] w fun e w' => e = .returned (.bool (entsB x ds)) /\ Below w.heap.size w w' := by
 obtain ⟨hl, hc, hm⟩ := row_length h0
 obtain ⟨g1, g2, g3, g4⟩ := geoB_iff.1 hg
 have hA := new_below w (.cells #[.int .i64 x.id, .int .i64 x.n, .int .i64 x.s, .slice am nm cm, .int .i64 x.lost, .int .i64 x.built, .int .i64 x.seq, .int .i64 x.tail, .int .i64 x.gen, .slice ad nd cd, .int .i64 x.fuse, .bool x.down, .bool x.broken] 33)
 have X := Box.new w 33 #[.int .i64 x.id, .int .i64 x.n, .int .i64 x.s, .slice am nm cm, .int .i64 x.lost, .int .i64 x.built, .int .i64 x.seq, .int .i64 x.tail, .int .i64 x.gen, .slice ad nd cd, .int .i64 x.fuse, .bool x.down, .bool x.broken]
 have zA := X.lt
 have hnd : nd <= 2097152 := by unfold wtWrS at hw; omega
 have h1 := h0.below hA
 obtain ⟨k0, k1, k2, k3, k4, k5, k6, k7, k8, k9, k10, k11, k12⟩ := X.cells13
 go_enter Tryz.func74, Tryz.ntmps74
 go_wp2
 generalize w.alloc (.cells #[.int .i64 x.id, .int .i64 x.n, .int .i64 x.s, .slice am nm cm, .int .i64 x.lost, .int .i64 x.built, .int .i64 x.seq, .int .i64 x.tail, .int .i64 x.gen, .slice ad nd cd, .int .i64 x.fuse, .bool x.down, .bool x.broken] 33) = W at hA X zA h1 k0 k1 k2 k3 k4 k5 k6 k7 k8 k9 k10 k11 k12 ⊢
 clear k0 k1 k2 k3 k4 k5 k6 k7 k8 k9 k10 k11 k12
 go_loopw [8] (fun i wr => ∃ j : Nat, j <= nd /\ i = .int .i64 j /\ (∀ (q : Nat) (d : Int × List Int), q < j -> ds[q]? = some d -> entAt x ds q d = true) /\ Below W.heap.size W wr) (fun i _ => nd - (intOf i).toNat)
 case atStart => exact ⟨0, Nat.zero_le _, rfl, fun q d hq => by omega, Below.refl _ _⟩
 obtain ⟨j, hj, rfl, hall, hb⟩ := hrel
 have Xr := X.below hb zA
 by_cases hjn : j < nd
 . rcases pairs_at rfl h1 with h0' | ⟨b, off, rfl, hbl, hcs⟩
   . omega
   have hdj : ds[j]? = some (ds[j]'(by omega)) := List.getElem?_eq_getElem (by omega)
   generalize ds[j]'(by omega) = d at hdj
   obtain ⟨v0, v1, hv0, hv1, hrv⟩ := hcs j d hdj
   obtain ⟨rfl, hrw⟩ := wr_rd hrv
   obtain ⟨av, cv, rfl⟩ := row_shape hrw
   obtain ⟨y, zs⟩ := d
   simp only at hv0 hv1 hrw hrv
   have u0 := (hb.cell (p := ⟨b, off + j * 2, none⟩) hbl).trans hv0
   have u1 := (hb.cell (p := ⟨b, off + j * 2 + 1, none⟩) hbl).trans hv1
   have i1 : (0 : Int) <= (j : Int) := by omega
   have i2 : (j : Int) < (nd : Int) := by omega
   have hwz : zs.length <= 2097152 := Nat.le_trans (inner_le' hdj) hw
   have HDJ := hidden hdj
   have b1 := new_below wr (.cells #[.int .i64 y, .slice av zs.length cv] 82)
   have Y1 := Box.new wr 82 #[.int .i64 y, .slice av zs.length cv]
   have X1 := Xr.below b1 Xr.lt
   have RZ := (hrw.below hb).below b1
   have B1 := hb.trans (b1.mono hb.size)
   obtain ⟨y0, y1⟩ := Y1.cells2
   obtain ⟨e0, e1, e2, e3, e4, e5, e6, e7, e8, e9, e10, e11, e12⟩ := X1.cells13
   have zy := Y1.lt
   have zx := X1.lt
   have zb : b < (wr.alloc (.cells #[.int .i64 y, .slice av zs.length cv] 82)).heap.size := Nat.lt_of_lt_of_le hbl B1.size
   have hq : ∀ (p : Nat) (q : Int × List Int), ds[p]? = some q -> (wr.alloc (.cells #[.int .i64 y, .slice av zs.length cv] 82)).cell? ⟨b, off + p * 2, none⟩ = some (.int .i64 q.1) := fun p q hpq => by
    obtain ⟨c0, c1, hc0, hc1, hrc⟩ := hcs p q hpq
    obtain ⟨rfl, _⟩ := wr_rd hrc
    exact (B1.cell (p := ⟨b, off + p * 2, none⟩) hbl).trans hc0
   have HQ := hidden hq
   clear hcs hv0 hv1 hrv hrw hdj hq b1 e0 e3 e4 e5 e6 e7 e8 e10 e11 e12
   cases hI : stripeB x.n x.s y
   . skip
     go_wp2_with fail
     generalize wr.alloc (.cells #[.int .i64 y, .slice av zs.length cv] 82) = w1 at X1 Y1 RZ B1 y0 y1 e1 e2 e9 zy zx zb HQ  ⊢
     refine wp_region_held_drew (S := fun w' => w'.cell? ⟨wr.heap.size, 0, none⟩ = some (.int .i64 y) /\ w'.cell? ⟨w.heap.size, 1, none⟩ = some (.int .i64 x.n) /\ w'.cell? ⟨w.heap.size, 2, none⟩ = some (.int .i64 x.s) /\ w'.cell? ⟨w.heap.size, 9, none⟩ = some (.slice (some ⟨b, off, none⟩) nd cd)) (by kernel_rfl) ?_ (fun hHeld => ?_)
     . exact ⟨y0, e1, e2, e9⟩
     refine held_t 0 hHeld ?_
     refine held_t 1 hHeld ?_
     refine held_t 2 hHeld ?_
     refine held_t 3 hHeld ?_
     refine held_one (i := 4) (by kernel_rfl) rfl (by kernel_rfl) (fun K hK => ?_)
     go_simp
     refine (hasStripe_any _ x.n x.s y).mono ?_
     rintro e w2 ⟨rfl, b2⟩
     have b2' : Below w1.heap.size w1 w2 := (Below.refl w1.heap.size w1).drew.trans b2
     clear b2
     rw [hI]
     go_wp2_with fail
     clear hHeld
     refine hK.out _ _ ?_ (fun hHeld => ?_)
     . exact ⟨(b2'.cell (p := ⟨wr.heap.size, 0, none⟩) zy).trans y0, (b2'.cell (p := ⟨w.heap.size, 1, none⟩) zx).trans e1, (b2'.cell (p := ⟨w.heap.size, 2, none⟩) zx).trans e2, (b2'.cell (p := ⟨w.heap.size, 9, none⟩) zx).trans e9⟩
     clear hK K
     refine held_t 5 hHeld ?_
     refine held_t 6 hHeld ?_
     refine held_p 7 hHeld ?_
     refine held_p 8 hHeld ?_
     refine held_p 9 hHeld ?_
     refine held_p 10 hHeld ?_
     refine held_p 11 hHeld ?_
     refine held_p 12 hHeld ?_
     refine held_p 13 hHeld ?_
     refine held_p 14 hHeld ?_
     refine held_p 15 hHeld ?_
     refine held_p 16 hHeld ?_
     refine held_p 17 hHeld ?_
     refine held_p 18 hHeld ?_
     refine held_p 19 hHeld ?_
     refine held_p 20 hHeld ?_
     refine held_t 21 hHeld ?_
     refine wpAnyH_done (by kernel_rfl) ?_ _
     clear hHeld
     have HB := hidden (hA.trans ((B1.trans (b2'.mono B1.size)).mono hA.size))
     have HE := hidden (entsB_no (x := x) HDJ.out (entAt_1 (by rw [← stripe_in6 hg]; exact hI)))
     go_wp2
     go_ret
     exact ⟨ret_bool HE.out.symm, HB.out⟩
   have HI := hidden ((stripe_in6 hg).symm.trans hI)
   by_cases hj0 : j = 0
   . subst hj0
     simp only [Nat.zero_mul, Nat.add_zero] at u0 u1
     by_cases hL : (zs.length : Int) = x.n - 1
     . have hL1 : ((zs.length : Int) == x.n - 1) = true := by simpa using hL
       have hL2 : ((zs.length : Int) != x.n - 1) = false := by simpa using hL
       have HL := hidden hL
       have hsa : secB zs = allW zs := sec_all6 (by omega)
       have HSA := hidden hsa
       clear hL hsa
       cases hZ : secB zs
       . have HZ := hidden (HSA.out.symm.trans hZ)
         go_wp2_with fail
         generalize wr.alloc (.cells #[.int .i64 y, .slice av zs.length cv] 82) = w1 at X1 Y1 RZ B1 y0 y1 e1 e2 e9 zy zx zb HQ  ⊢
         refine wp_region_held_drew (S := fun w' => w'.cell? ⟨wr.heap.size, 0, none⟩ = some (.int .i64 y) /\ w'.cell? ⟨w.heap.size, 1, none⟩ = some (.int .i64 x.n) /\ w'.cell? ⟨w.heap.size, 2, none⟩ = some (.int .i64 x.s) /\ w'.cell? ⟨w.heap.size, 9, none⟩ = some (.slice (some ⟨b, off, none⟩) nd cd)) (by kernel_rfl) ?_ (fun hHeld => ?_)
         . exact ⟨y0, e1, e2, e9⟩
         refine held_t 0 hHeld ?_
         refine held_t 1 hHeld ?_
         refine held_t 2 hHeld ?_
         refine held_t 3 hHeld ?_
         refine held_one (i := 4) (by kernel_rfl) rfl (by kernel_rfl) (fun K hK => ?_)
         go_simp
         refine (hasStripe_any _ x.n x.s y).mono ?_
         rintro e w2 ⟨rfl, b2⟩
         have b2' : Below w1.heap.size w1 w2 := (Below.refl w1.heap.size w1).drew.trans b2
         clear b2
         rw [hI]
         go_wp2_with fail
         clear hHeld
         refine hK.out _ _ ?_ (fun hHeld => ?_)
         . exact ⟨(b2'.cell (p := ⟨wr.heap.size, 0, none⟩) zy).trans y0, (b2'.cell (p := ⟨w.heap.size, 1, none⟩) zx).trans e1, (b2'.cell (p := ⟨w.heap.size, 2, none⟩) zx).trans e2, (b2'.cell (p := ⟨w.heap.size, 9, none⟩) zx).trans e9⟩
         clear hK K
         refine held_t 5 hHeld ?_
         refine held_t 6 hHeld ?_
         refine held_t 7 hHeld ?_
         refine held_t 8 hHeld ?_
         refine held_t 9 hHeld ?_
         refine held_p 10 hHeld ?_
         refine held_p 11 hHeld ?_
         refine held_p 12 hHeld ?_
         refine held_p 13 hHeld ?_
         refine held_p 14 hHeld ?_
         refine held_p 15 hHeld ?_
         refine held_p 16 hHeld ?_
         refine held_p 17 hHeld ?_
         refine held_p 18 hHeld ?_
         refine held_p 19 hHeld ?_
         refine held_t 20 hHeld ?_
         refine held_t 21 hHeld ?_
         refine wpAnyH_done (by kernel_rfl) ?_ _
         clear hHeld
         have my1 := (b2'.cell (p := ⟨wr.heap.size, 1, none⟩) zy).trans y1
         have me1 := (b2'.cell (p := ⟨w.heap.size, 1, none⟩) zx).trans e1
         have me2 := (b2'.cell (p := ⟨w.heap.size, 2, none⟩) zx).trans e2
         have my := Nat.lt_of_lt_of_le zy b2'.size
         have mx := Nat.lt_of_lt_of_le zx b2'.size
         have RZ2 := RZ.below b2'
         go_wp2_with fail
         refine wp_region_held_drew (S := fun w' => w'.cell? ⟨wr.heap.size, 1, none⟩ = some (.slice av zs.length cv) /\ w'.cell? ⟨w.heap.size, 1, none⟩ = some (.int .i64 x.n) /\ w'.cell? ⟨w.heap.size, 2, none⟩ = some (.int .i64 x.s)) (by kernel_rfl) ?_ (fun hHeld => ?_)
         . exact ⟨my1, me1, me2⟩
         refine held_t 0 hHeld ?_
         refine held_t 1 hHeld ?_
         refine held_t 2 hHeld ?_
         refine held_t 3 hHeld ?_
         refine held_t 4 hHeld ?_
         refine held_one (i := 5) (by kernel_rfl) rfl (by kernel_rfl) (fun K hK => ?_)
         go_simp
         refine (perStripe_any _ x.n x.s g1 g2).mono ?_
         rintro e w3 ⟨rfl, b3⟩
         have b3' : Below w2.heap.size w2 w3 := (Below.refl w2.heap.size w2).drew.trans b3
         clear b3
         go_wp2_with fail
         clear hHeld
         refine hK.out _ _ ?_ (fun hHeld => ?_)
         . exact ⟨(b3'.cell (p := ⟨wr.heap.size, 1, none⟩) my).trans my1, (b3'.cell (p := ⟨w.heap.size, 1, none⟩) mx).trans me1, (b3'.cell (p := ⟨w.heap.size, 2, none⟩) mx).trans me2⟩
         clear hK K
         refine held_t 6 hHeld ?_
         refine held_t 7 hHeld ?_
         refine held_t 8 hHeld ?_
         refine held_t 9 hHeld ?_
         refine held_one (i := 10) (by kernel_rfl) rfl (by kernel_rfl) (fun K hK => ?_)
         go_simp
         refine (implSecOk_any _ _ _ _ zs rfl (ints_rd (RZ2.below b3')).1 hwz).mono ?_
         rintro e w4 ⟨rfl, s4⟩
         have b4' : Below w2.heap.size w2 w4 := Below.andThen b3' (s4.below _)
         clear s4
         rw [hZ]
         go_wp2_with fail
         clear hHeld
         refine hK.out _ _ ?_ (fun hHeld => ?_)
         . exact ⟨(b4'.cell (p := ⟨wr.heap.size, 1, none⟩) my).trans my1, (b4'.cell (p := ⟨w.heap.size, 1, none⟩) mx).trans me1, (b4'.cell (p := ⟨w.heap.size, 2, none⟩) mx).trans me2⟩
         clear hK K
         refine held_t 11 hHeld ?_
         refine held_t 12 hHeld ?_
         refine wpAnyH_done (by kernel_rfl) ?_ _
         clear hHeld
         have HB := hidden (hA.trans ((B1.trans ((Below.andThen b2' b4').mono B1.size)).mono hA.size))
         have HE := hidden (entsB_no (x := x) HDJ.out (entAt_3 HZ.out))
         go_wp2
         go_ret
         exact ⟨ret_bool HE.out.symm, HB.out⟩
       have HZ := hidden (HSA.out.symm.trans hZ)
       go_wp2_with fail
       generalize wr.alloc (.cells #[.int .i64 y, .slice av zs.length cv] 82) = w1 at X1 Y1 RZ B1 y0 y1 e1 e2 e9 zy zx zb HQ  ⊢
       refine wp_region_held_drew (S := fun w' => w'.cell? ⟨wr.heap.size, 0, none⟩ = some (.int .i64 y) /\ w'.cell? ⟨w.heap.size, 1, none⟩ = some (.int .i64 x.n) /\ w'.cell? ⟨w.heap.size, 2, none⟩ = some (.int .i64 x.s) /\ w'.cell? ⟨w.heap.size, 9, none⟩ = some (.slice (some ⟨b, off, none⟩) nd cd)) (by kernel_rfl) ?_ (fun hHeld => ?_)
       . exact ⟨y0, e1, e2, e9⟩
       refine held_t 0 hHeld ?_
       refine held_t 1 hHeld ?_
       refine held_t 2 hHeld ?_
       refine held_t 3 hHeld ?_
       refine held_one (i := 4) (by kernel_rfl) rfl (by kernel_rfl) (fun K hK => ?_)
       go_simp
       refine (hasStripe_any _ x.n x.s y).mono ?_
       rintro e w2 ⟨rfl, b2⟩
       have b2' : Below w1.heap.size w1 w2 := (Below.refl w1.heap.size w1).drew.trans b2
       clear b2
       rw [hI]
       go_wp2_with fail
       clear hHeld
       refine hK.out _ _ ?_ (fun hHeld => ?_)
       . exact ⟨(b2'.cell (p := ⟨wr.heap.size, 0, none⟩) zy).trans y0, (b2'.cell (p := ⟨w.heap.size, 1, none⟩) zx).trans e1, (b2'.cell (p := ⟨w.heap.size, 2, none⟩) zx).trans e2, (b2'.cell (p := ⟨w.heap.size, 9, none⟩) zx).trans e9⟩
       clear hK K
       refine held_t 5 hHeld ?_
       refine held_t 6 hHeld ?_
       refine held_t 7 hHeld ?_
       refine held_t 8 hHeld ?_
       refine held_t 9 hHeld ?_
       refine held_p 10 hHeld ?_
       refine held_p 11 hHeld ?_
       refine held_p 12 hHeld ?_
       refine held_p 13 hHeld ?_
       refine held_p 14 hHeld ?_
       refine held_p 15 hHeld ?_
       refine held_p 16 hHeld ?_
       refine held_p 17 hHeld ?_
       refine held_p 18 hHeld ?_
       refine held_p 19 hHeld ?_
       refine held_t 20 hHeld ?_
       refine held_t 21 hHeld ?_
       refine wpAnyH_done (by kernel_rfl) ?_ _
       clear hHeld
       have my1 := (b2'.cell (p := ⟨wr.heap.size, 1, none⟩) zy).trans y1
       have me1 := (b2'.cell (p := ⟨w.heap.size, 1, none⟩) zx).trans e1
       have me2 := (b2'.cell (p := ⟨w.heap.size, 2, none⟩) zx).trans e2
       have my := Nat.lt_of_lt_of_le zy b2'.size
       have mx := Nat.lt_of_lt_of_le zx b2'.size
       have RZ2 := RZ.below b2'
       go_wp2_with fail
       refine wp_region_held_drew (S := fun w' => w'.cell? ⟨wr.heap.size, 1, none⟩ = some (.slice av zs.length cv) /\ w'.cell? ⟨w.heap.size, 1, none⟩ = some (.int .i64 x.n) /\ w'.cell? ⟨w.heap.size, 2, none⟩ = some (.int .i64 x.s)) (by kernel_rfl) ?_ (fun hHeld => ?_)
       . exact ⟨my1, me1, me2⟩
       refine held_t 0 hHeld ?_
       refine held_t 1 hHeld ?_
       refine held_t 2 hHeld ?_
       refine held_t 3 hHeld ?_
       refine held_t 4 hHeld ?_
       refine held_one (i := 5) (by kernel_rfl) rfl (by kernel_rfl) (fun K hK => ?_)
       go_simp
       refine (perStripe_any _ x.n x.s g1 g2).mono ?_
       rintro e w3 ⟨rfl, b3⟩
       have b3' : Below w2.heap.size w2 w3 := (Below.refl w2.heap.size w2).drew.trans b3
       clear b3
       go_wp2_with fail
       clear hHeld
       refine hK.out _ _ ?_ (fun hHeld => ?_)
       . exact ⟨(b3'.cell (p := ⟨wr.heap.size, 1, none⟩) my).trans my1, (b3'.cell (p := ⟨w.heap.size, 1, none⟩) mx).trans me1, (b3'.cell (p := ⟨w.heap.size, 2, none⟩) mx).trans me2⟩
       clear hK K
       refine held_t 6 hHeld ?_
       refine held_t 7 hHeld ?_
       refine held_t 8 hHeld ?_
       refine held_t 9 hHeld ?_
       refine held_one (i := 10) (by kernel_rfl) rfl (by kernel_rfl) (fun K hK => ?_)
       go_simp
       refine (implSecOk_any _ _ _ _ zs rfl (ints_rd (RZ2.below b3')).1 hwz).mono ?_
       rintro e w4 ⟨rfl, s4⟩
       have b4' : Below w2.heap.size w2 w4 := Below.andThen b3' (s4.below _)
       clear s4
       rw [hZ]
       go_wp2_with fail
       clear hHeld
       refine hK.out _ _ ?_ (fun hHeld => ?_)
       . exact ⟨(b4'.cell (p := ⟨wr.heap.size, 1, none⟩) my).trans my1, (b4'.cell (p := ⟨w.heap.size, 1, none⟩) mx).trans me1, (b4'.cell (p := ⟨w.heap.size, 2, none⟩) mx).trans me2⟩
       clear hK K
       refine held_t 11 hHeld ?_
       refine held_t 12 hHeld ?_
       refine wpAnyH_done (by kernel_rfl) ?_ _
       clear hHeld
       have HB := hidden (B1.trans ((Below.andThen b2' b4').mono B1.size))
       have hat : entAt x ds (0) (y, zs) = true := entAt_4 HI.out HL.out HZ.out
       go_wp2
       go_roundw
       case rel => exact ⟨0 + 1, by omega, by go_num, fun q d hq hm' => by
        rcases Nat.lt_or_ge q (0) with h | h
        . exact hall q d h hm'
        obtain rfl : q = 0 := by omega
        rw [HDJ.out] at hm'
        cases hm'
        exact hat, HB.out⟩
       case measure => simp [intOf]; omega
     have hL1 : ((zs.length : Int) == x.n - 1) = false := by simpa using hL
     have hL2 : ((zs.length : Int) != x.n - 1) = true := by simpa using hL
     have HL := hidden hL
     clear hL
     go_wp2_with fail
     generalize wr.alloc (.cells #[.int .i64 y, .slice av zs.length cv] 82) = w1 at X1 Y1 RZ B1 y0 y1 e1 e2 e9 zy zx zb HQ  ⊢
     refine wp_region_held_drew (S := fun w' => w'.cell? ⟨wr.heap.size, 0, none⟩ = some (.int .i64 y) /\ w'.cell? ⟨w.heap.size, 1, none⟩ = some (.int .i64 x.n) /\ w'.cell? ⟨w.heap.size, 2, none⟩ = some (.int .i64 x.s) /\ w'.cell? ⟨w.heap.size, 9, none⟩ = some (.slice (some ⟨b, off, none⟩) nd cd)) (by kernel_rfl) ?_ (fun hHeld => ?_)
     . exact ⟨y0, e1, e2, e9⟩
     refine held_t 0 hHeld ?_
     refine held_t 1 hHeld ?_
     refine held_t 2 hHeld ?_
     refine held_t 3 hHeld ?_
     refine held_one (i := 4) (by kernel_rfl) rfl (by kernel_rfl) (fun K hK => ?_)
     go_simp
     refine (hasStripe_any _ x.n x.s y).mono ?_
     rintro e w2 ⟨rfl, b2⟩
     have b2' : Below w1.heap.size w1 w2 := (Below.refl w1.heap.size w1).drew.trans b2
     clear b2
     rw [hI]
     go_wp2_with fail
     clear hHeld
     refine hK.out _ _ ?_ (fun hHeld => ?_)
     . exact ⟨(b2'.cell (p := ⟨wr.heap.size, 0, none⟩) zy).trans y0, (b2'.cell (p := ⟨w.heap.size, 1, none⟩) zx).trans e1, (b2'.cell (p := ⟨w.heap.size, 2, none⟩) zx).trans e2, (b2'.cell (p := ⟨w.heap.size, 9, none⟩) zx).trans e9⟩
     clear hK K
     refine held_t 5 hHeld ?_
     refine held_t 6 hHeld ?_
     refine held_t 7 hHeld ?_
     refine held_t 8 hHeld ?_
     refine held_t 9 hHeld ?_
     refine held_p 10 hHeld ?_
     refine held_p 11 hHeld ?_
     refine held_p 12 hHeld ?_
     refine held_p 13 hHeld ?_
     refine held_p 14 hHeld ?_
     refine held_p 15 hHeld ?_
     refine held_p 16 hHeld ?_
     refine held_p 17 hHeld ?_
     refine held_p 18 hHeld ?_
     refine held_p 19 hHeld ?_
     refine held_t 20 hHeld ?_
     refine held_t 21 hHeld ?_
     refine wpAnyH_done (by kernel_rfl) ?_ _
     clear hHeld
     have my1 := (b2'.cell (p := ⟨wr.heap.size, 1, none⟩) zy).trans y1
     have me1 := (b2'.cell (p := ⟨w.heap.size, 1, none⟩) zx).trans e1
     have me2 := (b2'.cell (p := ⟨w.heap.size, 2, none⟩) zx).trans e2
     have my := Nat.lt_of_lt_of_le zy b2'.size
     have mx := Nat.lt_of_lt_of_le zx b2'.size
     have RZ2 := RZ.below b2'
     go_wp2_with fail
     refine wp_region_held_drew (S := fun w' => w'.cell? ⟨wr.heap.size, 1, none⟩ = some (.slice av zs.length cv) /\ w'.cell? ⟨w.heap.size, 1, none⟩ = some (.int .i64 x.n) /\ w'.cell? ⟨w.heap.size, 2, none⟩ = some (.int .i64 x.s)) (by kernel_rfl) ?_ (fun hHeld => ?_)
     . exact ⟨my1, me1, me2⟩
     refine held_t 0 hHeld ?_
     refine held_t 1 hHeld ?_
     refine held_t 2 hHeld ?_
     refine held_t 3 hHeld ?_
     refine held_t 4 hHeld ?_
     refine held_one (i := 5) (by kernel_rfl) rfl (by kernel_rfl) (fun K hK => ?_)
     go_simp
     refine (perStripe_any _ x.n x.s g1 g2).mono ?_
     rintro e w3 ⟨rfl, b3⟩
     have b3' : Below w2.heap.size w2 w3 := (Below.refl w2.heap.size w2).drew.trans b3
     clear b3
     go_wp2_with fail
     clear hHeld
     refine hK.out _ _ ?_ (fun hHeld => ?_)
     . exact ⟨(b3'.cell (p := ⟨wr.heap.size, 1, none⟩) my).trans my1, (b3'.cell (p := ⟨w.heap.size, 1, none⟩) mx).trans me1, (b3'.cell (p := ⟨w.heap.size, 2, none⟩) mx).trans me2⟩
     clear hK K
     refine held_t 6 hHeld ?_
     refine held_t 7 hHeld ?_
     refine held_p 8 hHeld ?_
     refine held_p 9 hHeld ?_
     refine held_none (i := 10) (by kernel_rfl) rfl (by kernel_rfl) hHeld ?_
     simp only [Act.put, List.setIfInBounds_toArray, List.set_cons_zero, List.set_cons_succ]
     refine held_p 11 hHeld ?_
     refine held_t 12 hHeld ?_
     refine wpAnyH_done (by kernel_rfl) ?_ _
     clear hHeld
     have HB := hidden (hA.trans ((B1.trans ((Below.andThen b2' b3').mono B1.size)).mono hA.size))
     have HE := hidden (entsB_no (x := x) HDJ.out (entAt_2 HL.out))
     go_wp2
     go_ret
     exact ⟨ret_bool HE.out.symm, HB.out⟩
   obtain ⟨p, rfl⟩ : ∃ p, j = p + 1 := ⟨j - 1, by omega⟩
   have hpq : ds[p]? = some (ds[p]'(by omega)) := List.getElem?_eq_getElem (by omega)
   generalize ds[p]'(by omega) = q at hpq
   have qc := HQ.out p q hpq
   obtain ⟨s, zq⟩ := q
   simp only at qc
   have HPQ := hidden hpq
   clear hpq
   have j1 : IntKind.i64.wrap (((p + 1 : Nat) : Int) - 1) = (p : Int) := by rw [IntWalk.i64_in _ (by omega)]; omega
   have j2 : IntKind.i64.wrap ((p : Int) + 1 - 1) = (p : Int) := by rw [IntWalk.i64_in _ (by omega)]; omega
   have j3 : IntKind.i64.wrap (p : Int) = (p : Int) := IntWalk.i64_in _ (by omega)
   have j4 : (0 : Int) <= (p : Int) := by omega
   have j5 : (p : Int) < (nd : Int) := by omega
   have j6 : (0 : Int) < ((p + 1 : Nat) : Int) := by omega
   by_cases hlt : s < y
   . have hge : ¬ y <= s := by omega
     by_cases hL : (zs.length : Int) = x.n - 1
     . have hL1 : ((zs.length : Int) == x.n - 1) = true := by simpa using hL
       have hL2 : ((zs.length : Int) != x.n - 1) = false := by simpa using hL
       have HL := hidden hL
       have hsa : secB zs = allW zs := sec_all6 (by omega)
       have HSA := hidden hsa
       clear hL hsa
       cases hZ : secB zs
       . have HZ := hidden (HSA.out.symm.trans hZ)
         go_wp2_with fail
         generalize wr.alloc (.cells #[.int .i64 y, .slice av zs.length cv] 82) = w1 at X1 Y1 RZ B1 y0 y1 e1 e2 e9 zy zx zb HQ qc ⊢
         refine wp_region_held_drew (S := fun w' => w'.cell? ⟨wr.heap.size, 0, none⟩ = some (.int .i64 y) /\ w'.cell? ⟨w.heap.size, 1, none⟩ = some (.int .i64 x.n) /\ w'.cell? ⟨w.heap.size, 2, none⟩ = some (.int .i64 x.s) /\ w'.cell? ⟨w.heap.size, 9, none⟩ = some (.slice (some ⟨b, off, none⟩) nd cd) /\ w'.cell? ⟨b, off + p * 2, none⟩ = some (.int .i64 s)) (by kernel_rfl) ?_ (fun hHeld => ?_)
         . exact ⟨y0, e1, e2, e9, qc⟩
         refine held_t 0 hHeld ?_
         refine held_t 1 hHeld ?_
         refine held_t 2 hHeld ?_
         refine held_t 3 hHeld ?_
         refine held_one (i := 4) (by kernel_rfl) rfl (by kernel_rfl) (fun K hK => ?_)
         go_simp
         refine (hasStripe_any _ x.n x.s y).mono ?_
         rintro e w2 ⟨rfl, b2⟩
         have b2' : Below w1.heap.size w1 w2 := (Below.refl w1.heap.size w1).drew.trans b2
         clear b2
         rw [hI]
         go_wp2_with fail
         clear hHeld
         refine hK.out _ _ ?_ (fun hHeld => ?_)
         . exact ⟨(b2'.cell (p := ⟨wr.heap.size, 0, none⟩) zy).trans y0, (b2'.cell (p := ⟨w.heap.size, 1, none⟩) zx).trans e1, (b2'.cell (p := ⟨w.heap.size, 2, none⟩) zx).trans e2, (b2'.cell (p := ⟨w.heap.size, 9, none⟩) zx).trans e9, (b2'.cell (p := ⟨b, off + p * 2, none⟩) zb).trans qc⟩
         clear hK K
         refine held_t 5 hHeld ?_
         refine held_t 6 hHeld ?_
         refine held_t 7 hHeld ?_
         refine held_t 8 hHeld ?_
         refine held_t 9 hHeld ?_
         refine held_t 10 hHeld ?_
         refine held_t 11 hHeld ?_
         refine held_t 12 hHeld ?_
         refine held_t 13 hHeld ?_
         refine held_t 14 hHeld ?_
         refine held_t 15 hHeld ?_
         refine held_t 16 hHeld ?_
         refine held_t 17 hHeld ?_
         refine held_t 18 hHeld ?_
         refine held_t 19 hHeld ?_
         refine held_t 20 hHeld ?_
         refine held_t 21 hHeld ?_
         refine wpAnyH_done (by kernel_rfl) ?_ _
         clear hHeld
         have my1 := (b2'.cell (p := ⟨wr.heap.size, 1, none⟩) zy).trans y1
         have me1 := (b2'.cell (p := ⟨w.heap.size, 1, none⟩) zx).trans e1
         have me2 := (b2'.cell (p := ⟨w.heap.size, 2, none⟩) zx).trans e2
         have my := Nat.lt_of_lt_of_le zy b2'.size
         have mx := Nat.lt_of_lt_of_le zx b2'.size
         have RZ2 := RZ.below b2'
         go_wp2_with fail
         refine wp_region_held_drew (S := fun w' => w'.cell? ⟨wr.heap.size, 1, none⟩ = some (.slice av zs.length cv) /\ w'.cell? ⟨w.heap.size, 1, none⟩ = some (.int .i64 x.n) /\ w'.cell? ⟨w.heap.size, 2, none⟩ = some (.int .i64 x.s)) (by kernel_rfl) ?_ (fun hHeld => ?_)
         . exact ⟨my1, me1, me2⟩
         refine held_t 0 hHeld ?_
         refine held_t 1 hHeld ?_
         refine held_t 2 hHeld ?_
         refine held_t 3 hHeld ?_
         refine held_t 4 hHeld ?_
         refine held_one (i := 5) (by kernel_rfl) rfl (by kernel_rfl) (fun K hK => ?_)
         go_simp
         refine (perStripe_any _ x.n x.s g1 g2).mono ?_
         rintro e w3 ⟨rfl, b3⟩
         have b3' : Below w2.heap.size w2 w3 := (Below.refl w2.heap.size w2).drew.trans b3
         clear b3
         go_wp2_with fail
         clear hHeld
         refine hK.out _ _ ?_ (fun hHeld => ?_)
         . exact ⟨(b3'.cell (p := ⟨wr.heap.size, 1, none⟩) my).trans my1, (b3'.cell (p := ⟨w.heap.size, 1, none⟩) mx).trans me1, (b3'.cell (p := ⟨w.heap.size, 2, none⟩) mx).trans me2⟩
         clear hK K
         refine held_t 6 hHeld ?_
         refine held_t 7 hHeld ?_
         refine held_t 8 hHeld ?_
         refine held_t 9 hHeld ?_
         refine held_one (i := 10) (by kernel_rfl) rfl (by kernel_rfl) (fun K hK => ?_)
         go_simp
         refine (implSecOk_any _ _ _ _ zs rfl (ints_rd (RZ2.below b3')).1 hwz).mono ?_
         rintro e w4 ⟨rfl, s4⟩
         have b4' : Below w2.heap.size w2 w4 := Below.andThen b3' (s4.below _)
         clear s4
         rw [hZ]
         go_wp2_with fail
         clear hHeld
         refine hK.out _ _ ?_ (fun hHeld => ?_)
         . exact ⟨(b4'.cell (p := ⟨wr.heap.size, 1, none⟩) my).trans my1, (b4'.cell (p := ⟨w.heap.size, 1, none⟩) mx).trans me1, (b4'.cell (p := ⟨w.heap.size, 2, none⟩) mx).trans me2⟩
         clear hK K
         refine held_t 11 hHeld ?_
         refine held_t 12 hHeld ?_
         refine wpAnyH_done (by kernel_rfl) ?_ _
         clear hHeld
         have HB := hidden (hA.trans ((B1.trans ((Below.andThen b2' b4').mono B1.size)).mono hA.size))
         have HE := hidden (entsB_no (x := x) HDJ.out (entAt_3 HZ.out))
         go_wp2
         go_ret
         exact ⟨ret_bool HE.out.symm, HB.out⟩
       have HZ := hidden (HSA.out.symm.trans hZ)
       go_wp2_with fail
       generalize wr.alloc (.cells #[.int .i64 y, .slice av zs.length cv] 82) = w1 at X1 Y1 RZ B1 y0 y1 e1 e2 e9 zy zx zb HQ qc ⊢
       refine wp_region_held_drew (S := fun w' => w'.cell? ⟨wr.heap.size, 0, none⟩ = some (.int .i64 y) /\ w'.cell? ⟨w.heap.size, 1, none⟩ = some (.int .i64 x.n) /\ w'.cell? ⟨w.heap.size, 2, none⟩ = some (.int .i64 x.s) /\ w'.cell? ⟨w.heap.size, 9, none⟩ = some (.slice (some ⟨b, off, none⟩) nd cd) /\ w'.cell? ⟨b, off + p * 2, none⟩ = some (.int .i64 s)) (by kernel_rfl) ?_ (fun hHeld => ?_)
       . exact ⟨y0, e1, e2, e9, qc⟩
       refine held_t 0 hHeld ?_
       refine held_t 1 hHeld ?_
       refine held_t 2 hHeld ?_
       refine held_t 3 hHeld ?_
       refine held_one (i := 4) (by kernel_rfl) rfl (by kernel_rfl) (fun K hK => ?_)
       go_simp
       refine (hasStripe_any _ x.n x.s y).mono ?_
       rintro e w2 ⟨rfl, b2⟩
       have b2' : Below w1.heap.size w1 w2 := (Below.refl w1.heap.size w1).drew.trans b2
       clear b2
       rw [hI]
       go_wp2_with fail
       clear hHeld
       refine hK.out _ _ ?_ (fun hHeld => ?_)
       . exact ⟨(b2'.cell (p := ⟨wr.heap.size, 0, none⟩) zy).trans y0, (b2'.cell (p := ⟨w.heap.size, 1, none⟩) zx).trans e1, (b2'.cell (p := ⟨w.heap.size, 2, none⟩) zx).trans e2, (b2'.cell (p := ⟨w.heap.size, 9, none⟩) zx).trans e9, (b2'.cell (p := ⟨b, off + p * 2, none⟩) zb).trans qc⟩
       clear hK K
       refine held_t 5 hHeld ?_
       refine held_t 6 hHeld ?_
       refine held_t 7 hHeld ?_
       refine held_t 8 hHeld ?_
       refine held_t 9 hHeld ?_
       refine held_t 10 hHeld ?_
       refine held_t 11 hHeld ?_
       refine held_t 12 hHeld ?_
       refine held_t 13 hHeld ?_
       refine held_t 14 hHeld ?_
       refine held_t 15 hHeld ?_
       refine held_t 16 hHeld ?_
       refine held_t 17 hHeld ?_
       refine held_t 18 hHeld ?_
       refine held_t 19 hHeld ?_
       refine held_t 20 hHeld ?_
       refine held_t 21 hHeld ?_
       refine wpAnyH_done (by kernel_rfl) ?_ _
       clear hHeld
       have my1 := (b2'.cell (p := ⟨wr.heap.size, 1, none⟩) zy).trans y1
       have me1 := (b2'.cell (p := ⟨w.heap.size, 1, none⟩) zx).trans e1
       have me2 := (b2'.cell (p := ⟨w.heap.size, 2, none⟩) zx).trans e2
       have my := Nat.lt_of_lt_of_le zy b2'.size
       have mx := Nat.lt_of_lt_of_le zx b2'.size
       have RZ2 := RZ.below b2'
       go_wp2_with fail
       refine wp_region_held_drew (S := fun w' => w'.cell? ⟨wr.heap.size, 1, none⟩ = some (.slice av zs.length cv) /\ w'.cell? ⟨w.heap.size, 1, none⟩ = some (.int .i64 x.n) /\ w'.cell? ⟨w.heap.size, 2, none⟩ = some (.int .i64 x.s)) (by kernel_rfl) ?_ (fun hHeld => ?_)
       . exact ⟨my1, me1, me2⟩
       refine held_t 0 hHeld ?_
       refine held_t 1 hHeld ?_
       refine held_t 2 hHeld ?_
       refine held_t 3 hHeld ?_
       refine held_t 4 hHeld ?_
       refine held_one (i := 5) (by kernel_rfl) rfl (by kernel_rfl) (fun K hK => ?_)
       go_simp
       refine (perStripe_any _ x.n x.s g1 g2).mono ?_
       rintro e w3 ⟨rfl, b3⟩
       have b3' : Below w2.heap.size w2 w3 := (Below.refl w2.heap.size w2).drew.trans b3
       clear b3
       go_wp2_with fail
       clear hHeld
       refine hK.out _ _ ?_ (fun hHeld => ?_)
       . exact ⟨(b3'.cell (p := ⟨wr.heap.size, 1, none⟩) my).trans my1, (b3'.cell (p := ⟨w.heap.size, 1, none⟩) mx).trans me1, (b3'.cell (p := ⟨w.heap.size, 2, none⟩) mx).trans me2⟩
       clear hK K
       refine held_t 6 hHeld ?_
       refine held_t 7 hHeld ?_
       refine held_t 8 hHeld ?_
       refine held_t 9 hHeld ?_
       refine held_one (i := 10) (by kernel_rfl) rfl (by kernel_rfl) (fun K hK => ?_)
       go_simp
       refine (implSecOk_any _ _ _ _ zs rfl (ints_rd (RZ2.below b3')).1 hwz).mono ?_
       rintro e w4 ⟨rfl, s4⟩
       have b4' : Below w2.heap.size w2 w4 := Below.andThen b3' (s4.below _)
       clear s4
       rw [hZ]
       go_wp2_with fail
       clear hHeld
       refine hK.out _ _ ?_ (fun hHeld => ?_)
       . exact ⟨(b4'.cell (p := ⟨wr.heap.size, 1, none⟩) my).trans my1, (b4'.cell (p := ⟨w.heap.size, 1, none⟩) mx).trans me1, (b4'.cell (p := ⟨w.heap.size, 2, none⟩) mx).trans me2⟩
       clear hK K
       refine held_t 11 hHeld ?_
       refine held_t 12 hHeld ?_
       refine wpAnyH_done (by kernel_rfl) ?_ _
       clear hHeld
       have HB := hidden (B1.trans ((Below.andThen b2' b4').mono B1.size))
       have hat : entAt x ds (p + 1) (y, zs) = true := (entAt_5 HI.out HL.out HZ.out HPQ.out).trans (by simpa using hlt)
       go_wp2
       go_roundw
       case rel => exact ⟨p + 1 + 1, by omega, by go_num, fun q d hq hm' => by
        rcases Nat.lt_or_ge q (p + 1) with h | h
        . exact hall q d h hm'
        obtain rfl : q = p + 1 := by omega
        rw [HDJ.out] at hm'
        cases hm'
        exact hat, HB.out⟩
       case measure => simp [intOf]; omega
     have hL1 : ((zs.length : Int) == x.n - 1) = false := by simpa using hL
     have hL2 : ((zs.length : Int) != x.n - 1) = true := by simpa using hL
     have HL := hidden hL
     clear hL
     go_wp2_with fail
     generalize wr.alloc (.cells #[.int .i64 y, .slice av zs.length cv] 82) = w1 at X1 Y1 RZ B1 y0 y1 e1 e2 e9 zy zx zb HQ qc ⊢
     refine wp_region_held_drew (S := fun w' => w'.cell? ⟨wr.heap.size, 0, none⟩ = some (.int .i64 y) /\ w'.cell? ⟨w.heap.size, 1, none⟩ = some (.int .i64 x.n) /\ w'.cell? ⟨w.heap.size, 2, none⟩ = some (.int .i64 x.s) /\ w'.cell? ⟨w.heap.size, 9, none⟩ = some (.slice (some ⟨b, off, none⟩) nd cd) /\ w'.cell? ⟨b, off + p * 2, none⟩ = some (.int .i64 s)) (by kernel_rfl) ?_ (fun hHeld => ?_)
     . exact ⟨y0, e1, e2, e9, qc⟩
     refine held_t 0 hHeld ?_
     refine held_t 1 hHeld ?_
     refine held_t 2 hHeld ?_
     refine held_t 3 hHeld ?_
     refine held_one (i := 4) (by kernel_rfl) rfl (by kernel_rfl) (fun K hK => ?_)
     go_simp
     refine (hasStripe_any _ x.n x.s y).mono ?_
     rintro e w2 ⟨rfl, b2⟩
     have b2' : Below w1.heap.size w1 w2 := (Below.refl w1.heap.size w1).drew.trans b2
     clear b2
     rw [hI]
     go_wp2_with fail
     clear hHeld
     refine hK.out _ _ ?_ (fun hHeld => ?_)
     . exact ⟨(b2'.cell (p := ⟨wr.heap.size, 0, none⟩) zy).trans y0, (b2'.cell (p := ⟨w.heap.size, 1, none⟩) zx).trans e1, (b2'.cell (p := ⟨w.heap.size, 2, none⟩) zx).trans e2, (b2'.cell (p := ⟨w.heap.size, 9, none⟩) zx).trans e9, (b2'.cell (p := ⟨b, off + p * 2, none⟩) zb).trans qc⟩
     clear hK K
     refine held_t 5 hHeld ?_
     refine held_t 6 hHeld ?_
     refine held_t 7 hHeld ?_
     refine held_t 8 hHeld ?_
     refine held_t 9 hHeld ?_
     refine held_t 10 hHeld ?_
     refine held_t 11 hHeld ?_
     refine held_t 12 hHeld ?_
     refine held_t 13 hHeld ?_
     refine held_t 14 hHeld ?_
     refine held_t 15 hHeld ?_
     refine held_t 16 hHeld ?_
     refine held_t 17 hHeld ?_
     refine held_t 18 hHeld ?_
     refine held_t 19 hHeld ?_
     refine held_t 20 hHeld ?_
     refine held_t 21 hHeld ?_
     refine wpAnyH_done (by kernel_rfl) ?_ _
     clear hHeld
     have my1 := (b2'.cell (p := ⟨wr.heap.size, 1, none⟩) zy).trans y1
     have me1 := (b2'.cell (p := ⟨w.heap.size, 1, none⟩) zx).trans e1
     have me2 := (b2'.cell (p := ⟨w.heap.size, 2, none⟩) zx).trans e2
     have my := Nat.lt_of_lt_of_le zy b2'.size
     have mx := Nat.lt_of_lt_of_le zx b2'.size
     have RZ2 := RZ.below b2'
     go_wp2_with fail
     refine wp_region_held_drew (S := fun w' => w'.cell? ⟨wr.heap.size, 1, none⟩ = some (.slice av zs.length cv) /\ w'.cell? ⟨w.heap.size, 1, none⟩ = some (.int .i64 x.n) /\ w'.cell? ⟨w.heap.size, 2, none⟩ = some (.int .i64 x.s)) (by kernel_rfl) ?_ (fun hHeld => ?_)
     . exact ⟨my1, me1, me2⟩
     refine held_t 0 hHeld ?_
     refine held_t 1 hHeld ?_
     refine held_t 2 hHeld ?_
     refine held_t 3 hHeld ?_
     refine held_t 4 hHeld ?_
     refine held_one (i := 5) (by kernel_rfl) rfl (by kernel_rfl) (fun K hK => ?_)
     go_simp
     refine (perStripe_any _ x.n x.s g1 g2).mono ?_
     rintro e w3 ⟨rfl, b3⟩
     have b3' : Below w2.heap.size w2 w3 := (Below.refl w2.heap.size w2).drew.trans b3
     clear b3
     go_wp2_with fail
     clear hHeld
     refine hK.out _ _ ?_ (fun hHeld => ?_)
     . exact ⟨(b3'.cell (p := ⟨wr.heap.size, 1, none⟩) my).trans my1, (b3'.cell (p := ⟨w.heap.size, 1, none⟩) mx).trans me1, (b3'.cell (p := ⟨w.heap.size, 2, none⟩) mx).trans me2⟩
     clear hK K
     refine held_t 6 hHeld ?_
     refine held_t 7 hHeld ?_
     refine held_p 8 hHeld ?_
     refine held_p 9 hHeld ?_
     refine held_none (i := 10) (by kernel_rfl) rfl (by kernel_rfl) hHeld ?_
     simp only [Act.put, List.setIfInBounds_toArray, List.set_cons_zero, List.set_cons_succ]
     refine held_p 11 hHeld ?_
     refine held_t 12 hHeld ?_
     refine wpAnyH_done (by kernel_rfl) ?_ _
     clear hHeld
     have HB := hidden (hA.trans ((B1.trans ((Below.andThen b2' b3').mono B1.size)).mono hA.size))
     have HE := hidden (entsB_no (x := x) HDJ.out (entAt_2 HL.out))
     go_wp2
     go_ret
     exact ⟨ret_bool HE.out.symm, HB.out⟩
   have hge : y <= s := by omega
   go_wp2_with fail
   generalize wr.alloc (.cells #[.int .i64 y, .slice av zs.length cv] 82) = w1 at X1 Y1 RZ B1 y0 y1 e1 e2 e9 zy zx zb HQ qc ⊢
   refine wp_region_held_drew (S := fun w' => w'.cell? ⟨wr.heap.size, 0, none⟩ = some (.int .i64 y) /\ w'.cell? ⟨w.heap.size, 1, none⟩ = some (.int .i64 x.n) /\ w'.cell? ⟨w.heap.size, 2, none⟩ = some (.int .i64 x.s) /\ w'.cell? ⟨w.heap.size, 9, none⟩ = some (.slice (some ⟨b, off, none⟩) nd cd) /\ w'.cell? ⟨b, off + p * 2, none⟩ = some (.int .i64 s)) (by kernel_rfl) ?_ (fun hHeld => ?_)
   . exact ⟨y0, e1, e2, e9, qc⟩
   refine held_t 0 hHeld ?_
   refine held_t 1 hHeld ?_
   refine held_t 2 hHeld ?_
   refine held_t 3 hHeld ?_
   refine held_one (i := 4) (by kernel_rfl) rfl (by kernel_rfl) (fun K hK => ?_)
   go_simp
   refine (hasStripe_any _ x.n x.s y).mono ?_
   rintro e w2 ⟨rfl, b2⟩
   have b2' : Below w1.heap.size w1 w2 := (Below.refl w1.heap.size w1).drew.trans b2
   clear b2
   rw [hI]
   go_wp2_with fail
   clear hHeld
   refine hK.out _ _ ?_ (fun hHeld => ?_)
   . exact ⟨(b2'.cell (p := ⟨wr.heap.size, 0, none⟩) zy).trans y0, (b2'.cell (p := ⟨w.heap.size, 1, none⟩) zx).trans e1, (b2'.cell (p := ⟨w.heap.size, 2, none⟩) zx).trans e2, (b2'.cell (p := ⟨w.heap.size, 9, none⟩) zx).trans e9, (b2'.cell (p := ⟨b, off + p * 2, none⟩) zb).trans qc⟩
   clear hK K
   refine held_t 5 hHeld ?_
   refine held_t 6 hHeld ?_
   refine held_t 7 hHeld ?_
   refine held_t 8 hHeld ?_
   refine held_t 9 hHeld ?_
   refine held_t 10 hHeld ?_
   refine held_t 11 hHeld ?_
   refine held_t 12 hHeld ?_
   refine held_t 13 hHeld ?_
   refine held_t 14 hHeld ?_
   refine held_t 15 hHeld ?_
   refine held_t 16 hHeld ?_
   refine held_t 17 hHeld ?_
   refine held_t 18 hHeld ?_
   refine held_t 19 hHeld ?_
   refine held_t 20 hHeld ?_
   refine held_t 21 hHeld ?_
   refine wpAnyH_done (by kernel_rfl) ?_ _
   clear hHeld
   have HB := hidden (hA.trans ((B1.trans (b2'.mono B1.size)).mono hA.size))
   have HE := hidden (entsB_no (x := x) HDJ.out (entAt_6 HPQ.out hge))
   go_wp2
   go_ret
   exact ⟨ret_bool HE.out.symm, HB.out⟩
 have ej : j = nd := by omega
 subst ej
 have hAll : entsB x ds = true := allIx_iff.2 (fun q d hq => hall q d (by have := (List.getElem?_eq_some_iff.1 hq).1; omega) hq)
 have HB := hidden (hA.trans (hb.mono hA.size))
 go_wp2
 go_ret
 exact ⟨ret_bool hAll.symm, HB.out⟩

theorem recsOk_any (w : World) (x : ArrN) (am ad : Option Addr) (nm cm nd cd : Nat) :
 Calls Tryz.prog 73 #[.agg #[.int .i64 x.id, .int .i64 x.n, .int .i64 x.s, .slice am nm cm, .int .i64 x.lost, .int .i64 x.built, .int .i64 x.seq, .int .i64 x.tail, .int .i64 x.gen, .slice ad nd cd, .int .i64 x.fuse, .bool x.down, .bool x.broken]] w fun e w' => e = .returned (.bool (recB6 x)) /\ Below w.heap.size w w' := by
 have hA := new_below w (.cells #[.int .i64 x.id, .int .i64 x.n, .int .i64 x.s, .slice am nm cm, .int .i64 x.lost, .int .i64 x.built, .int .i64 x.seq, .int .i64 x.tail, .int .i64 x.gen, .slice ad nd cd, .int .i64 x.fuse, .bool x.down, .bool x.broken] 33)
 have X := Box.new w 33 #[.int .i64 x.id, .int .i64 x.n, .int .i64 x.s, .slice am nm cm, .int .i64 x.lost, .int .i64 x.built, .int .i64 x.seq, .int .i64 x.tail, .int .i64 x.gen, .slice ad nd cd, .int .i64 x.fuse, .bool x.down, .bool x.broken]
 obtain ⟨k0, k1, k2, k3, k4, k5, k6, k7, k8, k9, k10, k11, k12⟩ := X.cells13
 clear k0 k1 k2 k3 k4 k5 k8 k9 k10 k11 k12 X
 go_enter Tryz.func73, Tryz.ntmps73
 go_wp2_with fail
 refine (within_any _ _ _ _).mono ?_
 rintro e wq ⟨rfl, hq⟩
 obtain rfl := hq.symm
 cases hs : inB x.seq 0 60000
 . have HF : Hid (recB6 x = false) := by unfold Hid recB6; rw [hs]; rfl
   go_wp2
   go_ret
   exact ⟨ret_bool HF.out.symm, hA⟩
 go_wp2_with fail
 refine (within_any _ _ _ _).mono ?_
 rintro e wq ⟨rfl, hq⟩
 obtain rfl := hq.symm
 cases ht : inB x.tail 0 60000
 . have HF : Hid (recB6 x = false) := by unfold Hid recB6; rw [hs, ht]; rfl
   go_wp2
   go_ret
   exact ⟨ret_bool HF.out.symm, hA⟩
 have HF : Hid (recB6 x = inB (x.seq - x.tail) 0 4) := by unfold Hid recB6; rw [hs, ht]; rfl
 obtain ⟨s1, s2⟩ := inB_iff.1 hs
 obtain ⟨t1, t2⟩ := inB_iff.1 ht
 have hw : IntKind.i64.wrap (x.seq - x.tail) = x.seq - x.tail := IntWalk.i64_in _ (by omega)
 go_wp2_with fail
 refine (within_any _ _ _ _).mono ?_
 rintro e wq ⟨rfl, hq⟩
 obtain rfl := hq.symm
 cases hd : inB (x.seq - x.tail) 0 4
 . go_wp2
   go_ret
   exact ⟨ret_bool (by rw [HF.out, hd]), hA⟩
 go_wp2
 go_ret
 exact ⟨ret_bool (by rw [HF.out, hd]), hA⟩

theorem implArrOk_any (w : World) (E F G : TypeId) (x : ArrN) (am ad : Option Addr) (nm cm nd cd : Nat) (ms : List MemD) (ds : List (Int × List Int)) (h0 : (tMemS E F).Rd w [.slice am nm cm] ms) (h1 : (tWrS G).Rd w [.slice ad nd cd] ds) (hw : wtArr ms ds <= 2097152) :
 Calls Tryz.prog 33 #[.agg #[.int .i64 x.id, .int .i64 x.n, .int .i64 x.s, .slice am nm cm, .int .i64 x.lost, .int .i64 x.built, .int .i64 x.seq, .int .i64 x.tail, .int .i64 x.gen, .slice ad nd cd, .int .i64 x.fuse, .bool x.down, .bool x.broken]] w fun e w' => e = .returned (.bool (arrB x ms ds)) /\ Below w.heap.size w w' := by
 have hwm : wtMemS ms <= 2097152 := by unfold wtArr at hw; omega
 have hwd : wtWrS ds <= 2097152 := by unfold wtArr at hw; omega
 have hA := new_below w (.cells #[.int .i64 x.id, .int .i64 x.n, .int .i64 x.s, .slice am nm cm, .int .i64 x.lost, .int .i64 x.built, .int .i64 x.seq, .int .i64 x.tail, .int .i64 x.gen, .slice ad nd cd, .int .i64 x.fuse, .bool x.down, .bool x.broken] 33)
 have X := Box.new w 33 #[.int .i64 x.id, .int .i64 x.n, .int .i64 x.s, .slice am nm cm, .int .i64 x.lost, .int .i64 x.built, .int .i64 x.seq, .int .i64 x.tail, .int .i64 x.gen, .slice ad nd cd, .int .i64 x.fuse, .bool x.down, .bool x.broken]
 obtain ⟨k0, k1, k2, k3, k4, k5, k6, k7, k8, k9, k10, k11, k12⟩ := X.cells13
 have zA := X.lt
 have r0 := h0.below hA
 have r1 := h1.below hA
 go_enter Tryz.func33, Tryz.ntmps33
 go_wp2_with fail
 generalize w.alloc (.cells #[.int .i64 x.id, .int .i64 x.n, .int .i64 x.s, .slice am nm cm, .int .i64 x.lost, .int .i64 x.built, .int .i64 x.seq, .int .i64 x.tail, .int .i64 x.gen, .slice ad nd cd, .int .i64 x.fuse, .bool x.down, .bool x.broken] 33) = W at hA X zA r0 r1 k0 k1 k2 k3 k4 k5 k6 k7 k8 k9 k10 k11 k12 ⊢
 refine (implGeoOk_any _ _ _).mono ?_
 rintro e w1 ⟨rfl, b1⟩
 have X1 := X.below b1 X.lt
 have B1 := Below.andThen hA b1
 have q1 := r0.below b1
 have t1 := r1.below b1
 clear k0 k1 k2 k3 k4 k5 k6 k7 k8 k9 k10 k11 k12 b1 X hA r0 r1
 obtain ⟨k0, k1, k2, k3, k4, k5, k6, k7, k8, k9, k10, k11, k12⟩ := X1.cells13
 cases hg : geoB x.n x.s
 . have HF : Hid (arrB x ms ds = false) := by
    unfold Hid
    unfold arrB; rw [hg]; rfl
   go_wp2
   go_ret
   exact ⟨ret_bool HF.out.symm, B1⟩
 have HE := hidden (arr_same6 (ms := ms) (ds := ds) hg)
 obtain ⟨g1, g2, g3, g4⟩ := geoB_iff.1 hg
 go_wp2_with fail
 refine (within_any _ _ _ _).mono ?_
 rintro e wq ⟨rfl, hq⟩
 obtain rfl := hq.symm
 cases hid : inB x.id 1 60000
 . have HF : Hid (arrB x ms ds = false) := by
    unfold Hid
    rw [HE.out, hid]; rfl
   go_wp2
   go_ret
   exact ⟨ret_bool HF.out.symm, B1⟩
 go_wp2_with fail
 refine (lostOk_any _ x.n x.s x.lost x.built ⟨g1, g2⟩).mono ?_
 rintro e w2 ⟨rfl, b2⟩
 have X2 := X1.below b2 X1.lt
 have B2 := Below.andThen B1 b2
 have q2 := q1.below b2
 have t2 := t1.below b2
 clear k0 k1 k2 k3 k4 k5 k6 k7 k8 k9 k10 k11 k12 b2 X1 B1 q1 t1
 obtain ⟨k0, k1, k2, k3, k4, k5, k6, k7, k8, k9, k10, k11, k12⟩ := X2.cells13
 cases hlo : lostB x.n x.s x.lost x.built
 . have HF : Hid (arrB x ms ds = false) := by
    unfold Hid
    rw [HE.out, hid, hlo]; rfl
   go_wp2
   go_ret
   exact ⟨ret_bool HF.out.symm, B2⟩
 skip
 go_wp2_with fail
 refine (within_any _ _ _ _).mono ?_
 rintro e wq ⟨rfl, hq⟩
 obtain rfl := hq.symm
 cases hge : inB x.gen 0 60000
 . have HF : Hid (arrB x ms ds = false) := by
    unfold Hid
    rw [HE.out, hid, hlo, hge]; rfl
   go_wp2
   go_ret
   exact ⟨ret_bool HF.out.symm, B2⟩
 skip
 go_wp2_with fail
 refine (within_any _ _ _ _).mono ?_
 rintro e wq ⟨rfl, hq⟩
 obtain rfl := hq.symm
 cases hfu : inB x.fuse (-1) 1000
 . have HF : Hid (arrB x ms ds = false) := by
    unfold Hid
    rw [HE.out, hid, hlo, hge, hfu]; rfl
   go_wp2
   go_ret
   exact ⟨ret_bool HF.out.symm, B2⟩
 go_wp2_with fail
 refine (memsOk_any _ E F x _ _ _ _ _ _ ms q2 hwm hg).mono ?_
 rintro e w3 ⟨rfl, b3⟩
 have X3 := X2.below b3 X2.lt
 have B3 := Below.andThen B2 b3
 have q3 := q2.below b3
 have t3 := t2.below b3
 clear k0 k1 k2 k3 k4 k5 k6 k7 k8 k9 k10 k11 k12 b3 X2 B2 q2 t2
 obtain ⟨k0, k1, k2, k3, k4, k5, k6, k7, k8, k9, k10, k11, k12⟩ := X3.cells13
 cases hms : memsB x ms
 . have HF : Hid (arrB x ms ds = false) := by
    unfold Hid
    rw [HE.out, hid, hlo, hge, hfu, hms]; rfl
   go_wp2
   go_ret
   exact ⟨ret_bool HF.out.symm, B3⟩
 go_wp2_with fail
 refine (recsOk_any _ x _ _ _ _ _ _).mono ?_
 rintro e w4 ⟨rfl, b4⟩
 have X4 := X3.below b4 X3.lt
 have B4 := Below.andThen B3 b4
 have q4 := q3.below b4
 have t4 := t3.below b4
 clear k0 k1 k2 k3 k4 k5 k6 k7 k8 k9 k10 k11 k12 b4 X3 B3 q3 t3
 obtain ⟨k0, k1, k2, k3, k4, k5, k6, k7, k8, k9, k10, k11, k12⟩ := X4.cells13
 cases hre : recB6 x
 . have HF : Hid (arrB x ms ds = false) := by
    unfold Hid
    rw [HE.out, hid, hlo, hge, hfu, hms, hre]; rfl
   go_wp2
   go_ret
   exact ⟨ret_bool HF.out.symm, B4⟩
 have HF : Hid (arrB x ms ds = entsB x ds) := by
  unfold Hid
  rw [HE.out, hid, hlo, hge, hfu, hms, hre]; rfl
 go_wp2_with fail
 refine (dirtyOk_any _ G x _ _ _ _ _ _ ds t4 hwd hg).mono ?_
 rintro e w5 ⟨rfl, b5⟩
 have X5 := X4.below b5 X4.lt
 have B5 := Below.andThen B4 b5
 have q5 := q4.below b5
 have t5 := t4.below b5
 clear k0 k1 k2 k3 k4 k5 k6 k7 k8 k9 k10 k11 k12 b5 X4 B4 q4 t4
 obtain ⟨k0, k1, k2, k3, k4, k5, k6, k7, k8, k9, k10, k11, k12⟩ := X5.cells13
 cases hds : entsB x ds
 . go_wp2
   go_ret
   exact ⟨ret_bool (by rw [HF.out, hds]), B5⟩
 go_wp2
 go_ret
 exact ⟨ret_bool (by rw [HF.out, hds]), B5⟩

end Go.Proofs.YtechckninoilhaaGreat
