/-
 The exact law of FlushAll holds: for every array the law returns true. No condition.
-/
import Derived.Test.YtianjijbmiebgaaGreatRowFlushAllAll2
import Derived.Test.YtianjijbmiebgaaGreatRowFlushAllAll4
import Derived.Test.YtianjijbmiebgaaGreatRowFlushAllAll3
import Derived.Test.YtianjijbmiebgaaGreatRowFlushAllAll5
import Derived.Deep.Cut
import Derived.Deep.LoopGhost
import Derived.Test.YtianjijbmiebgaaGreatWalkInts
import Derived.Test.YtianjijbmiebgaaGreatWalkMark
import Derived.Test.YtianjijbmiebgaaGreatWalkSz
import Derived.ProofKit
import Derived.OpenShut
import Derived.Lib.SmallJoins
import Derived.Deep.Slices
import Derived.Deep.SlicePairs
import Derived.Test.YtianjijbmiebgaaGreatRows
import Derived.WalkKit
import Derived.ShutString
import Derived.ChangeOld
import Derived.Below

set_option maxRecDepth 100000
set_option maxHeartbeats 8000000
set_option linter.unusedSimpArgs false

namespace Go.Proofs.YtianjijbmiebgaaGreat
open Go.RowKit

theorem Tryz.infoOp : (Tryz.prog.info? 161).map (fun i => (i.zero, i.size, i.bytes)) = some (some .nilFunc, 1, 8) := by kernel_rfl

theorem opsOf_any (w : World) (B : Nat) (x : ArrN) (ms : List MemD) (ds : List (Int × List Int)) (fm fd : List Nat) (h : ArrAt w B x ms ds fm fd) (hl : ms.length <= 2097152) (K : Nat -> DOp) (F : FuncId) (cap : Array Value)
 (hen : ∀ m : Nat, Enters F (#[.int .i64 (m : Int)] ++ cap)) (hop : ∀ (m : Nat) (w' : World), m < ms.length -> Below w.heap.size w w' -> Calls Tryz.prog F (#[.int .i64 (m : Int)] ++ cap) w' fun e w'' => ∃ v, e = .returned v /\ (opTy B).Own w'' w'.heap.size w''.heap.size [v] (K m) /\ Below w'.heap.size w' w'') :
 Calls Tryz.prog 181 #[.pointer (some ⟨B, 0, none⟩), .func (Fn.func F) #[] cap] w fun e w' => ∃ bo co, e = .returned (.slice bo (opsL K ms ms.length).length co) /\ (tOps B).Own w' w.heap.size w'.heap.size [.slice bo (opsL K ms ms.length).length co] (opsL K ms ms.length) /\ Below w.heap.size w w' := by
 obtain ⟨i4, hi4, hz0, hz1, hz2⟩ := info_parts Tryz.infoOp
 obtain ⟨bm, bd, cm, cd, X, hmm, hdd, hr, r1, r2⟩ := h
 have zB := X.lt
 have k3 : w.cell? ⟨B, 3, none⟩ = some (.slice bm ms.length cm) := by
  unfold arrC at X
  exact X.cells13.2.2.2.1
 have hmx := (row_length hmm.rd).2
 have ML := hidden (lit0_mine (t := opTy B) (E := 161) w)
 have HB0 := hidden (new_below w (.cells #[] 161))
 have MM := hidden hmm
 have HOP := hidden hop
 have k3' : (w.alloc (.cells #[] 161)).cell? ⟨B, 3, none⟩ = some (.slice bm ms.length cm) := (HB0.out.cell (p := ⟨B, 3, none⟩) zB).trans k3
 clear hmm hdd X hop
 go_enter Tryz.func181, Tryz.ntmps181
 go_wp2
 go_loopw [5, 14] (fun v i wr => ∃ (j : Nat) (fp : List Nat), j <= ms.length /\ i = .int .i64 j /\ (tOps B).Mine wr [v] (opsL K ms j) fp /\ (∀ b ∈ fp, w.heap.size <= b) /\ Below w.heap.size w wr) (fun _ i _ => ms.length - (intOf i).toNat)
 case atStart => exact ⟨0, [w.heap.size], Nat.zero_le _, rfl, ML.out, by simp, HB0.out⟩
 case round =>
  obtain ⟨j, fp, hj, rfl, hm, hfp, hb⟩ := hrel
  have hs := hb.size
  by_cases hjn : j < ms.length
  . have i2 : (j : Int) < (ms.length : Int) := by omega
    have i1 : (0 : Int) <= (j : Int) := by omega
    obtain ⟨g, rfl⟩ := row_head MM.out (by omega)
    have hdj : ms[j]? = some (ms[j]'(by omega)) := List.getElem?_eq_getElem (by omega)
    generalize ms[j]'(by omega) = d at hdj
    obtain ⟨hgl, a0, a1, a3, c0, c1, c3, ss, cs, f, bs, rfl, q0, q1, q2, q3, _, _, _⟩ := disk_at MM.out hdj
    have p0 := (hb.cell (p := ⟨g, j * 4, none⟩) hgl).trans q0
    have p1 := (hb.cell (p := ⟨g, j * 4 + 1, none⟩) hgl).trans q1
    have p2 := (hb.cell (p := ⟨g, j * 4 + 2, none⟩) hgl).trans q2
    have p3 := (hb.cell (p := ⟨g, j * 4 + 3, none⟩) hgl).trans q3
    have hfl : flagAt ms j = f := by unfold flagAt; rw [getD_at hdj]
    have HL := hidden (opsL_succ K ms j)
    rw [hfl] at HL
    clear q0 q1 q2 q3 hdj hfl
    cases f
    . have HL2 : Hid (opsL K ms (j + 1) = opsL K ms j ++ [K j]) := HL.out
      have hkl := opsL_len K ms j
      have L1 : Hid ((opsL K ms j).length + 1 <= maxLen) := by unfold Hid maxLen; omega
      have L2 : Hid (((opsL K ms j).length + 1) * 8 <= 140737488355328) := by unfold Hid; omega
      have HM := hidden hm
      have HFP := hidden hfp
      have HB := hidden hb
      have hcf : ∀ w : World, Sem.run Tryz.prog (callFunc F (#[.int .i64 (j : Int)] ++ cap)) w = .ok (.enter F (#[.int .i64 (j : Int)] ++ cap)) w := hen j
      clear hm hfp hb HL hkl
      go_wp2_with fail
      have bA := Below.andThen HB.out (new_below wr (.cells #[.slice a0 ss.length c0, .slice a1 cs.length c1, .bool false, .slice a3 bs.length c3] 109))
      refine (HOP.out j _ hjn bA).mono ?_
      rintro e w1 ⟨v, rfl, ov, b1⟩
      obtain ⟨fpx, mx, rx⟩ := ov.mine
      obtain ⟨F1, cp1, hv, _⟩ := mx.1
      have hv' : v = .func (Fn.func F1) #[] cp1 := by simpa using hv
      subst hv'
      have bw1 := Below.andThen (new_below wr (.cells #[.slice a0 ss.length c0, .slice a1 cs.length c1, .bool false, .slice a3 bs.length c3] 109)) b1
      have bB := new_below w1 (.cells #[.func (Fn.func F1) #[] cp1] 161)
      have zA : (wr.alloc (.cells #[.slice a0 ss.length c0, .slice a1 cs.length c1, .bool false, .slice a3 bs.length c3] 109)).heap.size = wr.heap.size + 1 := by simp
      have z1 := b1.size
      have z2 : (w1.alloc (.cells #[.func (Fn.func F1) #[] cp1] 161)).heap.size = w1.heap.size + 1 := by simp
      have M1 := hidden ((HM.out.below bw1).alloc (.cells #[.func (Fn.func F1) #[] cp1] 161))
      have M2 := hidden (mx.alloc (.cells #[.func (Fn.func F1) #[] cp1] 161))
      have NN := hidden (news_new w1 #[.func (Fn.func F1) #[] cp1] 161)
      have hfl := HM.out.lt
      have DJ : Hid (∀ b ∈ fp, b ∉ fpx) := fun b hb hb' => by
       have h1 := hfl b hb
       have h2 := rx b hb'
       omega
      have RX := hidden rx
      have BB := hidden (Below.andThen bA (Below.andThen b1 bB))
      clear ov mx rx hv bA bw1 bB b1 hfl
      go_wp2_with (at_builtin; refine wpList_appT (opTy B) rfl _ _ 123 rfl 161 i4 .nilFunc 8 Tryz.underlying123 hi4 hz0 hz1 hz2 rfl Nat.zero_lt_one u5 (opsL K ms j) fp rfl ?_ ⟨w1.heap.size, 0, none⟩ 1 [.func (Fn.func F1) #[] cp1] (K j) fpx rfl ?_ ?_ ?_ ?_ ?_ ?_ ?_; exact M1.out; exact M2.out; exact DJ.out; exact NN.out; (intro u hu; simp at hu; rw [hu]; rfl); exact L1.out; exact L2.out; intro v2 w2 fp2 m1 m2 m3; rw [← HL2.out] at m1; have N1 := hidden m1; have N2 := hidden m2; have N3 := hidden m3; clear m1 m2 m3)
      have hf2 : ∀ b ∈ fp2, w.heap.size <= b := fun b hb => by
       rcases N2.out b hb with h | h | h
       . exact HFP.out b h
       . have := RX.out b h
         omega
       . have h1 := h.1
         omega
      have HBB := hidden (BB.out.trans (N3.out.below (N := w.heap.size) (by omega) (fun b hb => HFP.out b hb)))
      have HF2 := hidden hf2
      clear hf2
      go_roundw
      case rel => exact ⟨j + 1, fp2, by omega, by go_num, N1.out, HF2.out, HBB.out⟩
      case measure => simp [intOf]; omega
    . have HL2 : Hid (opsL K ms (j + 1) = opsL K ms j) := by unfold Hid; rw [HL.out, if_pos rfl, List.append_nil]
      have HM := hidden (hm.alloc (.cells #[.slice a0 ss.length c0, .slice a1 cs.length c1, .bool true, .slice a3 bs.length c3] 109))
      have HB := hidden (Below.andThen hb (new_below wr (.cells #[.slice a0 ss.length c0, .slice a1 cs.length c1, .bool true, .slice a3 bs.length c3] 109)))
      have HFP := hidden hfp
      clear hm hb hfp HL
      go_wp2
      go_roundw
      case rel => exact ⟨j + 1, fp, by omega, by go_num, by rw [HL2.out]; exact HM.out, HFP.out, HB.out⟩
      case measure => simp [intOf]; omega
  . have e : j = ms.length := by omega
    subst e
    have hltb := hm.lt
    obtain ⟨bo, co, hv⟩ := row_shape hm.rd
    subst hv
    have HO := hidden (hm.own (lo := w.heap.size) (hi := wr.heap.size) (fun b hb' => ⟨hfp b hb', hltb b hb'⟩))
    have i2 : ¬ ((ms.length : Int) < (ms.length : Int)) := by omega
    clear hm
    go_wp2
    go_ret
    exact ⟨_, _, rfl, HO.out, hb⟩

theorem live_at7 {x : ArrN} {ms : List MemD} {j : Nat} {s : Int} {d : MemD} (h : ms[j]? = some d) : liveB x ms (j : Int) s = (!d.2.2.1 && (!decide ((j : Int) = x.lost) || decide (s < x.built))) := by
 have hj := (List.getElem?_eq_some_iff.1 h).1
 unfold liveB
 rw [show inB (j : Int) 0 ((ms.length : Int) - 1) = true from inB_iff.2 (by omega), Int.toNat_natCast, List.getD_eq_getElem?_getD, h]
 rfl

theorem bears7_any (w : World) (E : TypeId) (x : ArrN) (ms : List MemD) (j : Nat) (v : Value) (s : Int) (hd : DiskV w E x ms j v) :
 Calls Tryz.prog 217 #[v, .int .i64 s] w fun e w' => e = .returned (.bool (liveB x ms (j : Int) s)) /\ Below w.heap.size w w' := by
 obtain ⟨a0, a1, a3, c0, c1, c3, ss, cs, f, bs, hj, r0, r1, r3, h⟩ := hd
 have hl := live_at7 (x := x) (s := s) hj
 rcases h with ⟨rfl, rfl⟩ | ⟨rfl, hx, rfl⟩ | ⟨rfl, hx, rfl⟩
 . refine (bears_failed w s).mono ?_
   rintro e w' ⟨rfl, rfl⟩
   exact ⟨ret_bool (by rw [hl]; rfl), Below.refl _ _⟩
 . refine (bears_lost w _ _ _ _ _ _ _ _ _ _ _ _).mono ?_
   rintro e w' ⟨rfl, b⟩
   exact ⟨ret_bool (by rw [hl]; simp [hx]), b⟩
 . refine (bears_sound w _ _ _ _ _ _ _ _ _ _ _).mono ?_
   rintro e w' ⟨rfl, b⟩
   exact ⟨ret_bool (by rw [hl]; simp [hx]), b⟩

theorem implLiveAt7_any (w : World) (E F G : TypeId) (x : ArrN) (am ad : Option Addr) (nm cm nd cd : Nat) (ms : List MemD) (ds : List (Int × List Int)) (m s : Int) (h0 : (tMemS E F).Rd w [.slice am nm cm] ms) (_ : (tWrS G).Rd w [.slice ad nd cd] ds) (hw : wtArr ms ds <= 2097152) :
 Calls Tryz.prog 171 #[.agg #[.int .i64 x.id, .int .i64 x.n, .int .i64 x.s, .slice am nm cm, .int .i64 x.lost, .int .i64 x.built, .int .i64 x.seq, .int .i64 x.tail, .int .i64 x.gen, .slice ad nd cd, .int .i64 x.fuse, .bool x.down, .bool x.broken], .int .i64 m, .int .i64 s] w fun e w' => e = .returned (.bool (liveB x ms m s)) /\ Below w.heap.size w w' := by
 have hwm : wtMemS ms <= 2097152 := by unfold wtArr at hw; omega
 obtain ⟨hl, hc, hm⟩ := row_length h0
 have hA := new_below w (.cells #[.int .i64 x.id, .int .i64 x.n, .int .i64 x.s, .slice am nm cm, .int .i64 x.lost, .int .i64 x.built, .int .i64 x.seq, .int .i64 x.tail, .int .i64 x.gen, .slice ad nd cd, .int .i64 x.fuse, .bool x.down, .bool x.broken] 29)
 have X := Box.new w 29 #[.int .i64 x.id, .int .i64 x.n, .int .i64 x.s, .slice am nm cm, .int .i64 x.lost, .int .i64 x.built, .int .i64 x.seq, .int .i64 x.tail, .int .i64 x.gen, .slice ad nd cd, .int .i64 x.fuse, .bool x.down, .bool x.broken]
 obtain ⟨k0, k1, k2, k3, k4, k5, k6, k7, k8, k9, k10, k11, k12⟩ := X.cells13
 have r0 := h0.below hA
 have zA := X.lt
 go_enter Tryz.func171, Tryz.ntmps171
 go_wp2_with fail
 generalize w.alloc (.cells #[.int .i64 x.id, .int .i64 x.n, .int .i64 x.s, .slice am nm cm, .int .i64 x.lost, .int .i64 x.built, .int .i64 x.seq, .int .i64 x.tail, .int .i64 x.gen, .slice ad nd cd, .int .i64 x.fuse, .bool x.down, .bool x.broken] 29) = W at hA X zA r0 k0 k1 k2 k3 k4 k5 k6 k7 k8 k9 k10 k11 k12 ⊢
 refine (hasDisk_any _ x _ _ _ _ _ _ m).mono ?_
 rintro e w1 ⟨rfl, b1⟩
 have X1 := X.below b1 zA
 have B1 := Below.andThen hA b1
 have q1 := r0.below b1
 clear k0 k1 k2 k3 k4 k5 k6 k7 k8 k9 k10 k11 k12 X b1 hA zA r0
 obtain ⟨k0, k1, k2, k3, k4, k5, k6, k7, k8, k9, k10, k11, k12⟩ := X1.cells13
 cases hi : inB m 0 ((nm : Int) - 1)
 . have HF : Hid (liveB x ms m s = false) := by unfold Hid liveB; rw [hl, hi]; rfl
   go_wp2
   go_ret
   exact ⟨ret_bool HF.out.symm, B1⟩
 . have hi2 := inB_iff.1 hi
   obtain ⟨j, rfl⟩ := Int.eq_ofNat_of_zero_le hi2.1
   go_wp2_with fail
   refine (diskAt_any _ E F x _ _ _ _ _ _ ms j q1 hwm (by omega)).mono ?_
   rintro e w2 ⟨v, rfl, hd, b2⟩
   have B2 := Below.andThen B1 b2
   clear k0 k1 k2 k3 k4 k5 k6 k7 k8 k9 k10 k11 k12 X1 b2 B1 q1
   go_wp2_with fail
   refine (bears7_any _ E x ms j v s hd).mono ?_
   rintro e w3 ⟨rfl, b3⟩
   have B3 := Below.andThen B2 b3
   clear b3 B2 hd
   go_wp2
   go_ret
   exact ⟨rfl, B3⟩

theorem wordWrites_any (w : World) (B : Nat) (x : ArrN) (ms : List MemD) (ds : List (Int × List Int)) (fm fd : List Nat) (h : ArrAt w B x ms ds fm fd) (hl : (ms.length : Int) = x.n) (hg : geoB x.n x.s = true) (s : Int) (hs : inB s 0 (x.s - 1) = true) (ar : Option Addr) (cr : Nat) (zs : List Int) (h5 : tIntS.Rd w [.slice ar zs.length cr] zs) (hz : (zs.length : Int) = x.n - 1) (hw : wtArr ms ds <= 2097152) :
 Calls Tryz.prog 117 #[.pointer (some ⟨B, 0, none⟩), .int .i64 s, .slice ar zs.length cr] w fun e w' => ∃ bo co, e = .returned (.slice bo (liveL x ms s (parN x.n x.s s) zs ms.length).length co) /\ (tOps B).Own w' w.heap.size w'.heap.size [.slice bo (liveL x ms s (parN x.n x.s s) zs ms.length).length co] (liveL x ms s (parN x.n x.s s) zs ms.length) /\ Below w.heap.size w w' := by
 obtain ⟨i4, hi4, hz0, hz1, hz2⟩ := info_parts Tryz.infoOp
 have hN0 := geoB_iff.1 hg
 have hzN : zs.length + 1 = ms.length := by omega
 have HZN := hidden hzN
 have hN5 : ms.length <= 5 := by omega
 have hzs : zs.length <= 4 := by omega
 obtain ⟨bm, bd, cm, cd, X, hmm, hdd, hr, r1, r2⟩ := h
 unfold arrC at X
 have zB := X.lt
 have bA := new_below w (.cells #[] 161)
 have ML := hidden (lit0_mine (t := opTy B) (E := 161) w)
 have X0 := X.below bA zB
 obtain ⟨k0, k1, k2, k3, k4, k5, k6, k7, k8, k9, k10, k11, k12⟩ := X0.cells13
 have hsz : (w.alloc (.cells #[] 161)).heap.size = w.heap.size + 1 := by simp
 have XH := hidden X
 have MM := hidden hmm.rd
 have DD := hidden hdd.rd
 have R5 := hidden (h5.below bA)
 have BA := hidden bA
 have hxn : x.n = ((ms.length : Nat) : Int) := hl.symm
 have hg2 : geoB ((ms.length : Nat) : Int) x.s = true := by rw [← hxn]; exact hg
 have HP : Hid (parN x.n x.s s = parN ((ms.length : Nat) : Int) x.s s) := by unfold Hid; rw [hxn]
 have HXN := hidden hxn
 have kk1 := k1
 rw [hxn] at kk1
 clear hmm hdd X X0 h5 bA hxn k1 hl hz hzN hN0 hg
 go_enter Tryz.func117, Tryz.ntmps117
 go_wp2_with fail
 refine (wordsOfData_any _ ms.length x.s s ar cr zs hg2 hs HZN.out R5.out).mono ?_
 rintro e W1 ⟨wb, rfl, ow, b1⟩
 obtain ⟨fw, mw, rw1⟩ := ow.mine
 have ML1 := hidden (ML.out.below b1)
 have BB1 := hidden (Below.andThen BA.out b1)
 have z1 := b1.size
 have MW := hidden mw
 have RW := hidden rw1
 have hwl : (wordsD ms.length (parN ((ms.length : Nat) : Int) x.s s) zs).length = ms.length := by unfold wordsD; simp
 have HWL := hidden hwl
 clear ow mw rw1 b1 ML BA R5 k0 k2 k3 k4 k5 k6 k7 k8 k9 k10 k11 k12 kk1 hwl
 go_wp2
 go_loopw [7, 19] (fun v i wr => ∃ (j : Nat) (fp : List Nat), j <= ms.length /\ i = .int .i64 j /\ (tOps B).Mine wr [v] (liveL x ms s (parN x.n x.s s) zs j) fp /\ (∀ b ∈ fp, b = w.heap.size ∨ W1.heap.size <= b) /\ tIntS.Mine wr [.slice (some ⟨wb, 0, none⟩) ms.length ms.length] (wordsD ms.length (parN ((ms.length : Nat) : Int) x.s s) zs) fw /\ Below w.heap.size w wr /\ W1.heap.size <= wr.heap.size) (fun _ i _ => ms.length - (intOf i).toNat)
 case atStart => exact ⟨0, [w.heap.size], Nat.zero_le _, rfl, ML1.out, by simp, MW.out, BB1.out, Nat.le_refl _⟩
 case round =>
  obtain ⟨j, fp, hj, rfl, hm, hfp, hmw, hb, hzr⟩ := hrel
  have hs0 := hb.size
  by_cases hjn : j < ms.length
  . have i2 : (j : Int) < (ms.length : Int) := by omega
    have i1 : (0 : Int) <= (j : Int) := by omega
    rcases (ints_rd hmw.rd).1.cases with h0 | ⟨b, off, hbo, hbl, hcz⟩
    . rw [HWL.out] at h0; omega
    simp at hbo
    obtain ⟨rfl, rfl⟩ := hbo
    have hcj := hcz j (by rw [HWL.out]; exact hjn)
    rw [Nat.zero_add] at hcj
    have hgd : (wordsD ms.length (parN ((ms.length : Nat) : Int) x.s s) zs).getD j 0 = dataW x.n (parN x.n x.s s) zs j := by
     rw [HP.out]
     unfold wordsD
     rw [List.getD_eq_getElem?_getD, List.getElem?_map, List.getElem?_range hjn, ← HXN.out]
     rfl
    rw [hgd] at hcj
    have HL := hidden (liveL_succ x ms s (parN x.n x.s s) zs j)
    generalize dataW x.n (parN x.n x.s s) zs j = y at hcj HL
    have xr := XH.out.below hb zB
    obtain ⟨k0, k1, k2, k3, k4, k5, k6, k7, k8, k9, k10, k11, k12⟩ := xr.cells13
    have HM := hidden hm
    have HFP := hidden hfp
    have HMW := hidden hmw
    have HB := hidden hb
    have rm := MM.out.below hb
    have rd := DD.out.below hb
    clear hm hfp hmw hb hcz hgd xr
    go_wp2_with fail
    refine (implLiveAt7_any _ 159 109 86 x _ _ _ _ _ _ ms ds (j : Int) s rm rd hw).mono ?_
    rintro e w1 ⟨rfl, b1⟩
    have z1b := b1.size
    have M1 := hidden (HM.out.below b1)
    have W1m := hidden (HMW.out.below b1)
    have BB := hidden (HB.out.trans (b1.mono hs0))
    have hfl0 := HM.out.lt
    have FLT := hidden hfl0
    clear k0 k1 k2 k3 k4 k5 k6 k7 k8 k9 k10 k11 k12 HM HMW HB b1 rm rd hcj hfl0
    cases hlv : liveB x ms (j : Int) s
    . have HL2 : Hid (liveL x ms s (parN x.n x.s s) zs (j + 1) = liveL x ms s (parN x.n x.s s) zs j) := by unfold Hid; rw [HL.out, hlv, if_neg (by simp), List.append_nil]
      clear hlv HL
      go_wp2
      go_roundw
      case rel => exact ⟨j + 1, fp, by omega, by go_num, by rw [HL2.out]; exact M1.out, HFP.out, W1m.out, BB.out, by omega⟩
      case measure => simp [intOf]; omega
    . have HL2 : Hid (liveL x ms s (parN x.n x.s s) zs (j + 1) = liveL x ms s (parN x.n x.s s) zs j ++ [wrK (dataN s) [y] j]) := by unfold Hid; rw [HL.out, hlv, if_pos rfl]
      clear hlv HL
      have osec := own_ints (Owns.lit .i64 3 w1 [y] 1 #[.int .i64 y] rfl rfl (by unfold maxLen; omega))
      obtain ⟨fs, msec, rs⟩ := osec.mine
      have bs := new_below w1 (.cells #[.int .i64 y] 3)
      have zs1 : (w1.alloc (.cells #[.int .i64 y] 3)).heap.size = w1.heap.size + 1 := by simp
      have hkl := liveL_len x ms s (parN x.n x.s s) zs j
      have L1 : Hid ((liveL x ms s (parN x.n x.s s) zs j).length + 1 <= maxLen) := by unfold Hid maxLen; omega
      have L2 : Hid (((liveL x ms s (parN x.n x.s s) zs j).length + 1) * 8 <= 140737488355328) := by unfold Hid; omega
      have MSEC : Hid (tIntS.Mine (w1.alloc (.cells #[.int .i64 y] 3)) [.slice (some ⟨w1.heap.size, 0, none⟩) ([y] : List Int).length 1] [y] fs) := msec
      have RS := hidden rs
      have BS := hidden bs
      clear osec msec rs bs hkl
      go_wp2_with fail
      refine (implDataAt_any _ s).mono ?_
      rintro e w1d ⟨rfl, hwd⟩
      subst hwd
      go_wp2_with fail
      refine (writeOp_any _ B j (dataN s) _ _ [y] fs MSEC.out (by simp)).mono ?_
      rintro e w3 ⟨v, fpx, rfl, mx, rx0, b3⟩
      have z3 := b3.size
      have rx : ∀ b ∈ fpx, w1d.heap.size <= b /\ b < w3.heap.size := fun b hb => by
       rcases rx0 b hb with h | h
       . have := RS.out b h; omega
       . omega
      obtain ⟨F1, cp1, hv, _⟩ := mx.1
      have hv' : v = .func (Fn.func F1) #[] cp1 := by simpa using hv
      subst hv'
      have b13 := Below.andThen BS.out b3
      have z2 : (w3.alloc (.cells #[.func (Fn.func F1) #[] cp1] 161)).heap.size = w3.heap.size + 1 := by simp
      have N1 := hidden ((M1.out.below b13).alloc (.cells #[.func (Fn.func F1) #[] cp1] 161))
      have NW := hidden ((W1m.out.below b13).alloc (.cells #[.func (Fn.func F1) #[] cp1] 161))
      have N2 := hidden (mx.alloc (.cells #[.func (Fn.func F1) #[] cp1] 161))
      have NN := hidden (news_new w3 #[.func (Fn.func F1) #[] cp1] 161)
      have DJ : Hid (∀ b ∈ fp, b ∉ fpx) := fun b hb hb' => by
       have h1 := FLT.out b hb
       have h2 := rx b hb'
       omega
      have RX := hidden rx
      have BB3 := hidden (Below.andThen (Below.andThen BB.out b13) (new_below w3 (.cells #[.func (Fn.func F1) #[] cp1] 161)))
      clear mx rx rx0 hv b3 b13 M1 W1m BB BS MSEC RS
      go_wp2_with (at_builtin; refine wpList_appT (opTy B) rfl _ _ 123 rfl 161 i4 .nilFunc 8 Tryz.underlying123 hi4 hz0 hz1 hz2 rfl Nat.zero_lt_one u7 (liveL x ms s (parN x.n x.s s) zs j) fp rfl ?_ ⟨w3.heap.size, 0, none⟩ 1 [.func (Fn.func F1) #[] cp1] (wrK (dataN s) [y] j) fpx rfl ?_ ?_ ?_ ?_ ?_ ?_ ?_; exact N1.out; exact N2.out; exact DJ.out; exact NN.out; (intro u hu; simp at hu; rw [hu]; rfl); exact L1.out; exact L2.out; intro v2 w2 fp2 m1 m2 m3; rw [← HL2.out] at m1; have O1 := hidden m1; have O2 := hidden m2; have O3 := hidden m3; clear m1 m2 m3)
      have hf2 : ∀ b ∈ fp2, b = w.heap.size ∨ W1.heap.size <= b := fun b hb => by
       rcases O2.out b hb with h | h | h
       . exact HFP.out b h
       . have := RX.out b h; exact .inr (by omega)
       . have h1 := h.1; exact .inr (by omega)
      have hbb := BB3.out.trans (O3.out.below (N := w.heap.size) (by omega) (fun b hb => by rcases HFP.out b hb with h | h <;> omega))
      have hnw := NW.out.kept O3.out (fun b hb hm => by
       have h1 := RW.out b hb
       rcases HFP.out b hm with h | h <;> omega)
      have hz4 := O3.out.size
      have HBB := hidden hbb
      have HNW := hidden hnw
      have HF2 := hidden hf2
      clear hbb hnw hf2
      go_roundw
      case rel => exact ⟨j + 1, fp2, by omega, by go_num, O1.out, HF2.out, HNW.out, HBB.out, by omega⟩
      case measure => simp [intOf]; omega
  . have e : j = ms.length := by omega
    subst e
    have hltb := hm.lt
    obtain ⟨bo, co, hv⟩ := row_shape hm.rd
    subst hv
    have HO := hidden (hm.own (lo := w.heap.size) (hi := wr.heap.size) (fun b hb' => ⟨by rcases hfp b hb' with h | h <;> omega, hltb b hb'⟩))
    have i2 : ¬ ((ms.length : Int) < (ms.length : Int)) := by omega
    clear hm hmw
    go_wp2
    go_ret
    exact ⟨_, _, rfl, HO.out, hb⟩

theorem recWrites1_any (w : World) (B p r m : Nat) (sq st : Int) (ar : Option Addr) (cr : Nat) (zs : List Int) (hp : Box w p 72 #[.pointer (some ⟨B, 0, none⟩)]) (hr : Box w r 121 #[.int .i64 sq, .int .i64 st, .slice ar zs.length cr]) (h5 : tIntS.Rd w [.slice ar zs.length cr] zs) (hl : zs.length <= 2000000) : Calls Tryz.prog 211 #[.int .i64 (m : Int), .pointer (some ⟨p, 0, none⟩), .pointer (some ⟨r, 0, none⟩)] w fun e w' => ∃ v, e = .returned v /\ (opTy B).Own w' w.heap.size w'.heap.size [v] (wrK (slotN sq) (putR sq st zs) m) /\ Below w.heap.size w w' := by
 have zp := hp.lt
 have zr := hr.lt
 have cp := hp.cell 0
 have k0 := hr.cell 0
 have k1 := hr.cell 1
 have k2 := hr.cell 2
 have hS : w.drew.cell? ⟨p, 0, none⟩ = some (.pointer (some ⟨B, 0, none⟩)) /\ w.drew.cell? ⟨r, 0, none⟩ = some (.int .i64 sq) /\ w.drew.cell? ⟨r, 1, none⟩ = some (.int .i64 st) /\ w.drew.cell? ⟨r, 2, none⟩ = some (.slice ar zs.length cr) := ⟨cp, k0, k1, k2⟩
 have R5 := hidden h5
 have hpl := putR_len sq st zs
 clear hp hr h5
 go_enter Tryz.func211, Tryz.ntmps211
 go_wp2_with fail
 refine Upto.start (S := fun w' => w'.cell? ⟨p, 0, none⟩ = some (.pointer (some ⟨B, 0, none⟩)) /\ w'.cell? ⟨r, 0, none⟩ = some (.int .i64 sq) /\ w'.cell? ⟨r, 1, none⟩ = some (.int .i64 st) /\ w'.cell? ⟨r, 2, none⟩ = some (.slice ar zs.length cr)) (k := 8) (by kernel_rfl) ?_
 refine Upto.t 0 hS ?_
 refine Upto.t 1 hS ?_
 refine Upto.t 2 hS ?_
 refine Upto.t 3 hS ?_
 refine Upto.t 5 hS ?_
 refine Upto.one (i := 4) (by kernel_rfl) rfl (fun K hK => ?_)
 go_simp
 refine (implSlotOf_any _ sq).mono ?_
 rintro e w1 ⟨rfl, hw1⟩
 subst hw1
 go_wp2_with fail
 refine hK.out _ _ (fun _ => hS) ?_
 clear hK K
 refine Upto.one (i := 6) (by kernel_rfl) rfl (fun K hK => ?_)
 go_simp
 refine (implPutRec_any _ sq st _ _ _ zs rfl (ints_rd R5.out.drew).1 (by omega)).mono ?_
 rintro e w2 ⟨a6, l6, c6, rfl, o6, b2'⟩
 have b2 : Below w.heap.size w w2 := (Below.refl w.heap.size w).drew.trans b2'
 have o6b : tIntS.Own w2 w.heap.size w2.heap.size [.slice a6 l6 c6] (putR sq st zs) := o6
 obtain ⟨hl6, _⟩ := row_length o6b.rd
 subst hl6
 obtain ⟨fs, ms6, rs⟩ := o6b.mine
 have MS := hidden ms6
 have RS := hidden rs
 have B2 := hidden b2
 have z2 := b2.size
 have hS2 : w2.cell? ⟨p, 0, none⟩ = some (.pointer (some ⟨B, 0, none⟩)) /\ w2.cell? ⟨r, 0, none⟩ = some (.int .i64 sq) /\ w2.cell? ⟨r, 1, none⟩ = some (.int .i64 st) /\ w2.cell? ⟨r, 2, none⟩ = some (.slice ar zs.length cr) := ⟨(b2.cell (p := ⟨p, 0, none⟩) zp).trans cp, (b2.cell (p := ⟨r, 0, none⟩) zr).trans k0, (b2.cell (p := ⟨r, 1, none⟩) zr).trans k1, (b2.cell (p := ⟨r, 2, none⟩) zr).trans k2⟩
 clear o6 o6b ms6 rs b2 b2' hS cp k0 k1 k2 R5
 go_wp2_with fail
 refine hK.out _ _ (fun _ => hS2) ?_
 clear hK K
 refine Upto.one (i := 7) (by kernel_rfl) rfl (fun K hK => ?_)
 go_simp
 refine (writeOp_any _ B m (slotN sq) _ _ (putR sq st zs) fs MS.out (by omega)).mono ?_
 rintro e w3 ⟨v, fp, rfl, mv, rv, b3⟩
 have z3 := b3.size
 have HO := hidden (mv.own (lo := w.heap.size) (hi := w3.heap.size) (fun b hb => by
  rcases rv b hb with h | h
  . have := RS.out b h
    omega
  . omega))
 have HB := hidden (Below.andThen B2.out b3)
 have hS3 : w3.cell? ⟨p, 0, none⟩ = some (.pointer (some ⟨B, 0, none⟩)) /\ w3.cell? ⟨r, 0, none⟩ = some (.int .i64 sq) /\ w3.cell? ⟨r, 1, none⟩ = some (.int .i64 st) /\ w3.cell? ⟨r, 2, none⟩ = some (.slice ar zs.length cr) := ⟨(b3.cell (p := ⟨p, 0, none⟩) (show p < w2.heap.size by omega)).trans hS2.1, (b3.cell (p := ⟨r, 0, none⟩) (show r < w2.heap.size by omega)).trans hS2.2.1, (b3.cell (p := ⟨r, 1, none⟩) (show r < w2.heap.size by omega)).trans hS2.2.2.1, (b3.cell (p := ⟨r, 2, none⟩) (show r < w2.heap.size by omega)).trans hS2.2.2.2⟩
 clear mv rv b3 MS RS B2 hS2
 go_wp2_with fail
 refine hK.out _ _ (fun _ => hS3) ?_
 clear hK K
 refine Upto.one (i := 8) (by kernel_rfl) rfl (fun K hK => ?_)
 go_simp
 refine hK.out _ _ (fun h => absurd rfl h) ?_
 clear hK K
 refine Upto.done (by kernel_rfl) ?_ _
 clear hS3
 go_wp2
 go_ret
 exact ⟨_, rfl, HO.out, HB.out⟩

theorem recWrites_any (w : World) (B : Nat) (x : ArrN) (ms : List MemD) (ds : List (Int × List Int)) (fm fd : List Nat) (h : ArrAt w B x ms ds fm fd) (hl : ms.length <= 2097152) (sq st : Int) (ar : Option Addr) (cr : Nat) (zs : List Int) (h5 : tIntS.Rd w [.slice ar zs.length cr] zs) (hz : zs.length <= 2000000) : Calls Tryz.prog 168 #[.pointer (some ⟨B, 0, none⟩), .agg #[.int .i64 sq, .int .i64 st, .slice ar zs.length cr]] w fun e w' => ∃ bo co, e = .returned (.slice bo (opsL (wrK (slotN sq) (putR sq st zs)) ms ms.length).length co) /\ (tOps B).Own w' w.heap.size w'.heap.size [.slice bo (opsL (wrK (slotN sq) (putR sq st zs)) ms ms.length).length co] (opsL (wrK (slotN sq) (putR sq st zs)) ms ms.length) /\ Below w.heap.size w w' := by
 have hmf : ∀ (fn : Fn) (first cap : Array Value) (w : World), (Instr.makeFunc fn first cap).run Tryz.prog w = .ok (.func fn first cap) w := fun _ _ _ _ => rfl
 have bA : Below w.heap.size w ((w.alloc (.cells #[.pointer (some ⟨B, 0, none⟩)] 72)).alloc (.cells #[.int .i64 sq, .int .i64 st, .slice ar zs.length cr] 121)) := (new_below w _).alloc (by simp) _
 have bx : Box ((w.alloc (.cells #[.pointer (some ⟨B, 0, none⟩)] 72)).alloc (.cells #[.int .i64 sq, .int .i64 st, .slice ar zs.length cr] 121)) w.heap.size 72 #[.pointer (some ⟨B, 0, none⟩)] := (Box.new w _ _).alloc _
 have br := Box.new (w.alloc (.cells #[.pointer (some ⟨B, 0, none⟩)] 72)) 121 #[.int .i64 sq, .int .i64 st, .slice ar zs.length cr]
 rw [World.size_alloc] at br
 have HA := hidden ((h.alloc (.cells #[.pointer (some ⟨B, 0, none⟩)] 72)).alloc (.cells #[.int .i64 sq, .int .i64 st, .slice ar zs.length cr] 121))
 have hsz : ((w.alloc (.cells #[.pointer (some ⟨B, 0, none⟩)] 72)).alloc (.cells #[.int .i64 sq, .int .i64 st, .slice ar zs.length cr] 121)).heap.size = w.heap.size + 1 + 1 := by simp
 have R5 := hidden (h5.below bA)
 clear h h5
 go_enter Tryz.func168, Tryz.ntmps168
 go_wp2_with fail
 refine (opsOf_any _ B x ms ds fm fd HA.out hl (wrK (slotN sq) (putR sq st zs)) 211 #[.pointer (some ⟨w.heap.size, 0, none⟩), .pointer (some ⟨w.heap.size + 1, 0, none⟩)] (fun m => enters_of Tryz.func211 (by kernel_rfl) (by kernel_rfl) _) (fun m w' hm hb => ?_)).mono ?_
 . exact recWrites1_any w' B _ _ m sq st ar cr zs (bx.below hb bx.lt) (br.below hb br.lt) (R5.out.below hb) hz
 rintro e w1 ⟨bo, co, rfl, oo, b1⟩
 have OO := hidden (oo.widen (lo' := w.heap.size) (hi' := w1.heap.size) (by omega) (Nat.le_refl _))
 have B1 := hidden (Below.andThen bA b1)
 clear oo b1 bA bx br
 go_wp2
 go_ret
 exact ⟨_, _, rfl, OO.out, B1.out⟩

theorem flushOp1_runs (w : World) (B p q m : Nat) (hp : Box w p 72 #[.pointer (some ⟨B, 0, none⟩)]) (hq : Box w q 3 #[.int .i64 (m : Int)]) : OpRuns B [p, q] 226 #[.pointer (some ⟨p, 0, none⟩), .pointer (some ⟨q, 0, none⟩)] (flushK m) w := by
 intro x ms ds fm fd hA hM hdis hlt
 dsimp only [flushK] at hlt
 obtain ⟨bm, bd, cm, cd, X, hmm, hdd, hr, r1, r2⟩ := hA
 have hm63 := (row_length hmm.rd).2
 obtain ⟨g, rfl⟩ := row_head hmm (by omega)
 have hdj : ms[m]? = some (ms[m]'(by omega)) := List.getElem?_eq_getElem (by omega)
 generalize ms[m]'(by omega) = d at hdj
 have hgm : ms.getD m memZ = d := getD_at hdj
 obtain ⟨hgl, a0, a1, a3, c0, c1, c3, ss, cs, f, bs, rfl, q0, q1, q2, q3, p0, p1, p3⟩ := disk_at hmm hdj
 have X0 := X
 unfold arrC at X0
 obtain ⟨k0, k1, k2, k3, k4, k5, k6, k7, k8, k9, k10, k11, k12⟩ := X0.cells13
 have zp := hp.lt
 have cp := hp.cell 0
 have zq := hq.lt
 have cq := hq.cell 0
 have hwt := memB_light (hM m _ hdj) f
 dsimp only at hwt
 have zB := X.lt
 have XH := hidden X
 have MH := hidden hmm
 have DH := hidden hdd
 have R0 := hidden p0
 have R1 := hidden p1
 have R3 := hidden p3
 have HG := hidden hgm
 have hS : w.drew.cell? ⟨p, 0, none⟩ = some (.pointer (some ⟨B, 0, none⟩)) /\ w.drew.cell? ⟨q, 0, none⟩ = some (.int .i64 (m : Int)) /\ w.drew.cell? ⟨B, 3, none⟩ = some (.slice (some ⟨g, 0, none⟩) ms.length cm) /\ w.drew.cell? ⟨g, m * 4, none⟩ = some (.slice a0 ss.length c0) /\ w.drew.cell? ⟨g, m * 4 + 1, none⟩ = some (.slice a1 cs.length c1) /\ w.drew.cell? ⟨g, m * 4 + 2, none⟩ = some (.bool f) /\ w.drew.cell? ⟨g, m * 4 + 3, none⟩ = some (.slice a3 bs.length c3) := ⟨cp, cq, k3, q0, q1, q2, q3⟩
 have i1 : (0 : Int) <= (m : Int) := by omega
 have i3 : (m : Int) < (ms.length : Int) := by omega
 clear X X0 hmm hdd p0 p1 p3 hM hdj hgm hdis
 go_enter Tryz.func226, Tryz.ntmps226
 go_wp2_with fail
 refine Upto.start (S := fun w' => w'.cell? ⟨p, 0, none⟩ = some (.pointer (some ⟨B, 0, none⟩)) /\ w'.cell? ⟨q, 0, none⟩ = some (.int .i64 (m : Int)) /\ w'.cell? ⟨B, 3, none⟩ = some (.slice (some ⟨g, 0, none⟩) ms.length cm) /\ w'.cell? ⟨g, m * 4, none⟩ = some (.slice a0 ss.length c0) /\ w'.cell? ⟨g, m * 4 + 1, none⟩ = some (.slice a1 cs.length c1) /\ w'.cell? ⟨g, m * 4 + 2, none⟩ = some (.bool f) /\ w'.cell? ⟨g, m * 4 + 3, none⟩ = some (.slice a3 bs.length c3)) (k := 14) (by kernel_rfl) ?_
 refine Upto.t 0 hS ?_
 refine Upto.t 1 hS ?_
 refine Upto.t 2 hS ?_
 refine Upto.t 3 hS ?_
 refine Upto.t 4 hS ?_
 refine Upto.t 5 hS ?_
 refine Upto.t 6 hS ?_
 refine Upto.t 7 hS ?_
 refine Upto.t 8 hS ?_
 refine Upto.t 9 hS ?_
 refine Upto.t 10 hS ?_
 refine Upto.t 11 hS ?_
 refine Upto.one (i := 12) (by kernel_rfl) rfl (fun K hK => ?_)
 go_simp
 refine (implFlushMem_any _ 159 _ _ _ _ _ _ _ _ _ ss cs f bs R0.out.drew R1.out.drew R3.out.drew (by omega)).mono ?_
 rintro e w2 ⟨u0, u1, u3, rfl, o2, b2'⟩
 have b2 : Below w.heap.size w w2 := (Below.refl w.heap.size w).drew.trans b2'
 have o2b : (tMem 159).Own w2 w.heap.size w2.heap.size [u0, u1, .bool f, u3] _ := o2
 obtain ⟨d0, l0, f0, d1, l1, f1, d3, l3, f3, hv0, hv1, hv3⟩ := mem_slices o2b
 subst hv0 hv1 hv3
 obtain ⟨fpx, mx, rx⟩ := o2b.mine
 obtain ⟨cOld, fz, hgm, fm9, hA9, hMv9⟩ := arr_store (m := m) XH.out MH.out DH.out hr r1 r2 b2 (by omega) mx (fun b hb => (rx b hb).1)
 obtain ⟨o0, t0⟩ := cOld 0 (by omega)
 obtain ⟨o1, t1⟩ := cOld 1 (by omega)
 obtain ⟨o2', t2⟩ := cOld 2 (by omega)
 obtain ⟨o3, t3⟩ := cOld 3 (by omega)
 rw [Nat.add_zero] at t0
 have HA := hidden hA9
 have HMV := hidden hMv9
 have hS2 : w2.cell? ⟨p, 0, none⟩ = some (.pointer (some ⟨B, 0, none⟩)) /\ w2.cell? ⟨q, 0, none⟩ = some (.int .i64 (m : Int)) /\ w2.cell? ⟨B, 3, none⟩ = some (.slice (some ⟨g, 0, none⟩) ms.length cm) /\ w2.cell? ⟨g, m * 4, none⟩ = some (.slice a0 ss.length c0) /\ w2.cell? ⟨g, m * 4 + 1, none⟩ = some (.slice a1 cs.length c1) /\ w2.cell? ⟨g, m * 4 + 2, none⟩ = some (.bool f) /\ w2.cell? ⟨g, m * 4 + 3, none⟩ = some (.slice a3 bs.length c3) := ⟨(b2.cell (p := ⟨p, 0, none⟩) zp).trans cp, (b2.cell (p := ⟨q, 0, none⟩) zq).trans cq, (b2.cell (p := ⟨B, 3, none⟩) zB).trans k3, (b2.cell (p := ⟨g, m * 4, none⟩) hgl).trans q0, (b2.cell (p := ⟨g, m * 4 + 1, none⟩) hgl).trans q1, (b2.cell (p := ⟨g, m * 4 + 2, none⟩) hgl).trans q2, (b2.cell (p := ⟨g, m * 4 + 3, none⟩) hgl).trans q3⟩
 have gB : ¬ g = B := fun e => r1 (e ▸ hgm)
 unfold put4 at HA HMV
 clear cp cq k3 q0 q1 q2 q3 o2 o2b b2 b2' mx rx cOld hA9 hMv9 XH MH DH R0 R1 R3 hwt
 go_wp2_with fail
 refine hK.out _ _ (fun _ => hS2) ?_
 clear hK K
 refine Upto.t 13 hS2 ?_
 refine Upto.one (i := 14) (by kernel_rfl) rfl (fun K hK => ?_)
 go_simp
 refine hK.out _ _ (fun h => absurd rfl h) ?_
 clear hK K
 refine Upto.done (by kernel_rfl) ?_ _
 clear hS hS2 t0 t1 t2 t3 fz
 go_wp2
 refine bodyPost_end (v := .tuple #[]) (results_none rfl _ _ _) rfl ?_
 refine ⟨rfl, fm9, ?_, HMV.out⟩
 show ArrAt _ B x (ms.set m (opF (flushK m) x (ms.getD m memZ))) ds fm9 fd
 rw [HG.out]
 exact HA.out

theorem flushOp_any (w : World) (B m : Nat) : Calls Tryz.prog 183 #[.pointer (some ⟨B, 0, none⟩), .int .i64 (m : Int)] w fun e w' => ∃ v, e = .returned v /\ (opTy B).Own w' w.heap.size w'.heap.size [v] (flushK m) /\ Below w.heap.size w w' := by
 have hmf : ∀ (fn : Fn) (first cap : Array Value) (w : World), (Instr.makeFunc fn first cap).run Tryz.prog w = .ok (.func fn first cap) w := fun _ _ _ _ => rfl
 have hb : Below w.heap.size w ((w.alloc (.cells #[.pointer (some ⟨B, 0, none⟩)] 72)).alloc (.cells #[.int .i64 (m : Int)] 3)) := ((Below.refl _ _).alloc (Nat.le_refl _) _).alloc (by simp) _
 have b0 : Box ((w.alloc (.cells #[.pointer (some ⟨B, 0, none⟩)] 72)).alloc (.cells #[.int .i64 (m : Int)] 3)) w.heap.size 72 #[.pointer (some ⟨B, 0, none⟩)] := (Box.new w _ _).alloc _
 have b1 := Box.new (w.alloc (.cells #[.pointer (some ⟨B, 0, none⟩)] 72)) 3 #[.int .i64 (m : Int)]
 rw [World.size_alloc] at b1
 have hsz : ((w.alloc (.cells #[.pointer (some ⟨B, 0, none⟩)] 72)).alloc (.cells #[.int .i64 (m : Int)] 3)).heap.size = w.heap.size + 1 + 1 := by simp
 have HO : Hid ((opTy B).Own ((w.alloc (.cells #[.pointer (some ⟨B, 0, none⟩)] 72)).alloc (.cells #[.int .i64 (m : Int)] 3)) w.heap.size ((w.alloc (.cells #[.pointer (some ⟨B, 0, none⟩)] 72)).alloc (.cells #[.int .i64 (m : Int)] 3)).heap.size [.func (Fn.func 226) #[] #[.pointer (some ⟨w.heap.size, 0, none⟩), .pointer (some ⟨w.heap.size + 1, 0, none⟩)]] (flushK m)) := by
  refine ⟨[w.heap.size, w.heap.size + 1], ⟨226, _, rfl, ?_, ?_, fun w' hk hs => ?_⟩, ?_, ?_⟩
  . exact enters_of Tryz.func226 (by kernel_rfl) (by kernel_rfl) _
  . intro b hb'; simp at hb'; omega
  . exact flushOp1_runs w' B _ _ m (b0.kept (hk _ (by simp))) (b1.kept (hk _ (by simp)))
  . simp
  . intro b hb'; simp at hb'; omega
 have HB := hidden hb
 clear hb b0 b1 hsz
 go_enter Tryz.func183, Tryz.ntmps183
 go_wp2
 go_ret
 exact ⟨_, rfl, HO.out, HB.out⟩

theorem flushes1_any (w : World) (B p m : Nat) (hp : Box w p 72 #[.pointer (some ⟨B, 0, none⟩)]) : Calls Tryz.prog 182 #[.int .i64 (m : Int), .pointer (some ⟨p, 0, none⟩)] w fun e w' => ∃ v, e = .returned v /\ (opTy B).Own w' w.heap.size w'.heap.size [v] (flushK m) /\ Below w.heap.size w w' := by
 have c0 : w.cell? ⟨p, 0, none⟩ = some (.pointer (some ⟨B, 0, none⟩)) := hp.cell 0
 go_enter Tryz.func182, Tryz.ntmps182
 go_wp2_with fail
 refine (flushOp_any _ B m).mono ?_
 rintro e w1 ⟨v, rfl, ov, b1⟩
 have OV := hidden ov
 have B1 := hidden b1
 clear ov b1
 go_wp2
 go_ret
 exact ⟨_, rfl, OV.out, B1.out⟩

theorem flushes_any (w : World) (B : Nat) (x : ArrN) (ms : List MemD) (ds : List (Int × List Int)) (fm fd : List Nat) (h : ArrAt w B x ms ds fm fd) (hl : ms.length <= 2097152) : Calls Tryz.prog 130 #[.pointer (some ⟨B, 0, none⟩)] w fun e w' => ∃ bo co, e = .returned (.slice bo (opsL flushK ms ms.length).length co) /\ (tOps B).Own w' w.heap.size w'.heap.size [.slice bo (opsL flushK ms ms.length).length co] (opsL flushK ms ms.length) /\ Below w.heap.size w w' := by
 have hmf : ∀ (fn : Fn) (first cap : Array Value) (w : World), (Instr.makeFunc fn first cap).run Tryz.prog w = .ok (.func fn first cap) w := fun _ _ _ _ => rfl
 have bA := new_below w (.cells #[.pointer (some ⟨B, 0, none⟩)] 72)
 have bx := Box.new w 72 #[.pointer (some ⟨B, 0, none⟩)]
 have HA := hidden (h.alloc (.cells #[.pointer (some ⟨B, 0, none⟩)] 72))
 have hlt := bx.lt
 clear h
 go_enter Tryz.func130, Tryz.ntmps130
 go_wp2_with fail
 refine (opsOf_any _ B x ms ds fm fd HA.out hl flushK 182 #[.pointer (some ⟨w.heap.size, 0, none⟩)] (fun m => enters_of Tryz.func182 (by kernel_rfl) (by kernel_rfl) _) (fun m w' hm hb => ?_)).mono ?_
 . exact flushes1_any w' B _ m (bx.below hb hlt)
 rintro e w1 ⟨bo, co, rfl, oo, b1⟩
 have OO := hidden (oo.widen (lo' := w.heap.size) (hi' := w1.heap.size) (by simp) (Nat.le_refl _))
 have B1 := hidden (Below.andThen bA b1)
 clear oo b1 bA bx
 go_wp2
 go_ret
 exact ⟨_, _, rfl, OO.out, B1.out⟩

theorem syncDisks_any (w : World) (B : Nat) (x : ArrN) (ms : List MemD) (ds : List (Int × List Int)) (fm fd : List Nat) (h : ArrAt w B x ms ds fm fd) (hf : x.fuse <= 1000) (hdn : x.down = false) (hM : MsOk ms) (hl : ms.length <= 2097152) : Calls Tryz.prog 62 #[.pointer (some ⟨B, 0, none⟩)] w (Did w B fm ds fd (syncS (x, ms) ms.length)) := by
 have HA := hidden h
 have HR : Hid (runS (x, ms) (opsL flushK ms ms.length) = syncS (x, ms) ms.length) := run_sync (x, ms) ms.length
 have HF : Hid (x.fuse <= 1000 /\ x.down = false) := ⟨hf, hdn⟩
 have hlB := h.lt
 have hlm := h.ltm.1
 clear h hf hdn
 go_enter Tryz.func62, Tryz.ntmps62
 go_wp2_with fail
 refine (flushes_any _ B x ms ds fm fd HA.out hl).mono ?_
 rintro e w1 ⟨bo, co, rfl, oo, b1⟩
 obtain ⟨fo, mo, ro⟩ := oo.mine
 have HP := hidden (perform_any w1 B x ms ds fm fd (HA.out.below b1) HF.out.1 HF.out.2 hM bo co (opsL flushK ms ms.length) fo mo (fun b hb => ⟨fun e => by have := (ro b hb).1; omega, fun hm => by have h1 := (ro b hb).1; have h2 := hlm b hm; omega⟩) (fun o ho => by
  obtain ⟨i, hi, hfl, rfl⟩ := opsL_mem ho
  exact ⟨hi, hfl⟩))
 have MB := hidden ((Moved.refl B fm w).below b1)
 clear oo mo ro b1 hlm
 go_wp2_with fail
 refine HP.out.mono ?_
 rintro e w2 hd
 rw [HR.out] at hd
 obtain ⟨he, fm2, hA2, hMv2⟩ := hd
 have HD : Hid (Did w B fm ds fd (syncS (x, ms) ms.length) e w2) := ⟨he, fm2, hA2, MB.out.trans hMv2⟩
 unfold EndOf at he
 clear hA2 hMv2 HR
 cases hst : (syncS (x, ms) ms.length).1.down
 . rw [if_neg (by simp [hst])] at he
   subst he
   clear hst
   go_wp2
   refine bodyPost_end (v := .tuple #[]) (results_none rfl _ _ _) rfl ?_
   exact HD.out
 . rw [if_pos hst] at he
   subst he
   clear hst
   go_wp2
   exact ⟨rfl, HD.out⟩

theorem superFor_any (w : World) (x : ArrN) (am ad : Option Addr) (nm cm nd cd : Nat) (m : Int) : Calls Tryz.prog 231 #[.agg #[.int .i64 x.id, .int .i64 x.n, .int .i64 x.s, .slice am nm cm, .int .i64 x.lost, .int .i64 x.built, .int .i64 x.seq, .int .i64 x.tail, .int .i64 x.gen, .slice ad nd cd, .int .i64 x.fuse, .bool x.down, .bool x.broken], .int .i64 m] w fun e w' => e = .returned (.agg #[.int .i64 x.id, .int .i64 x.gen, .int .i64 m, .int .i64 x.n, .int .i64 x.s, .int .i64 x.tail, .int .i64 x.lost, .int .i64 x.built]) /\ Below w.heap.size w w' := by
 have X : Box ((w.alloc (.cells #[.int .i64 x.id, .int .i64 x.n, .int .i64 x.s, .slice am nm cm, .int .i64 x.lost, .int .i64 x.built, .int .i64 x.seq, .int .i64 x.tail, .int .i64 x.gen, .slice ad nd cd, .int .i64 x.fuse, .bool x.down, .bool x.broken] 29)).alloc (.cells #[.int .i64 0, .int .i64 0, .int .i64 0, .int .i64 0, .int .i64 0, .int .i64 0, .int .i64 0, .int .i64 0] 133)) w.heap.size 29 #[.int .i64 x.id, .int .i64 x.n, .int .i64 x.s, .slice am nm cm, .int .i64 x.lost, .int .i64 x.built, .int .i64 x.seq, .int .i64 x.tail, .int .i64 x.gen, .slice ad nd cd, .int .i64 x.fuse, .bool x.down, .bool x.broken] := (Box.new w _ _).alloc _
 obtain ⟨k0, k1, k2, k3, k4, k5, k6, k7, k8, k9, k10, k11, k12⟩ := X.cells13
 clear X
 go_enter Tryz.func231, Tryz.ntmps231
 go_wp2
 refine bodyPost_ret (v := .agg #[.int .i64 x.id, .int .i64 x.gen, .int .i64 m, .int .i64 x.n, .int .i64 x.s, .int .i64 x.tail, .int .i64 x.lost, .int .i64 x.built]) (by simp [results, Tryz.results231, go_sem]) rfl ?_
 exact ⟨rfl, (new_below w _).alloc (by simp) _⟩

theorem superOp1_runs (w : World) (B p q m : Nat) (hp : Box w p 72 #[.pointer (some ⟨B, 0, none⟩)]) (hq : Box w q 3 #[.int .i64 (m : Int)]) : OpRuns B [p, q] 229 #[.pointer (some ⟨p, 0, none⟩), .pointer (some ⟨q, 0, none⟩)] (supK m) w := by
 intro x ms ds fm fd hA hM hdis hlt
 dsimp only [supK] at hlt
 obtain ⟨bm, bd, cm, cd, X, hmm, hdd, hr, r1, r2⟩ := hA
 have hm63 := (row_length hmm.rd).2
 obtain ⟨g, rfl⟩ := row_head hmm (by omega)
 have hdj : ms[m]? = some (ms[m]'(by omega)) := List.getElem?_eq_getElem (by omega)
 generalize ms[m]'(by omega) = d at hdj
 have hgm : ms.getD m memZ = d := getD_at hdj
 obtain ⟨hgl, a0, a1, a3, c0, c1, c3, ss, cs, f, bs, rfl, q0, q1, q2, q3, p0, p1, p3⟩ := disk_at hmm hdj
 have X0 := X
 unfold arrC at X0
 obtain ⟨k0, k1, k2, k3, k4, k5, k6, k7, k8, k9, k10, k11, k12⟩ := X0.cells13
 have zp := hp.lt
 have cp := hp.cell 0
 have zq := hq.lt
 have cq := hq.cell 0
 have hwt := memB_light (hM m _ hdj) f
 dsimp only at hwt
 have zB := X.lt
 have XH := hidden X
 have MH := hidden hmm
 have DH := hidden hdd
 have R0 := hidden p0
 have R1 := hidden p1
 have R3 := hidden p3
 have HG := hidden hgm
 have hS : w.drew.cell? ⟨p, 0, none⟩ = some (.pointer (some ⟨B, 0, none⟩)) /\ w.drew.cell? ⟨q, 0, none⟩ = some (.int .i64 (m : Int)) /\ w.drew.cell? ⟨B, 0, none⟩ = some (.int .i64 x.id) /\ w.drew.cell? ⟨B, 1, none⟩ = some (.int .i64 x.n) /\ w.drew.cell? ⟨B, 2, none⟩ = some (.int .i64 x.s) /\ w.drew.cell? ⟨B, 3, none⟩ = some (.slice (some ⟨g, 0, none⟩) ms.length cm) /\ w.drew.cell? ⟨B, 4, none⟩ = some (.int .i64 x.lost) /\ w.drew.cell? ⟨B, 5, none⟩ = some (.int .i64 x.built) /\ w.drew.cell? ⟨B, 6, none⟩ = some (.int .i64 x.seq) /\ w.drew.cell? ⟨B, 7, none⟩ = some (.int .i64 x.tail) /\ w.drew.cell? ⟨B, 8, none⟩ = some (.int .i64 x.gen) /\ w.drew.cell? ⟨B, 9, none⟩ = some (.slice bd ds.length cd) /\ w.drew.cell? ⟨B, 10, none⟩ = some (.int .i64 x.fuse) /\ w.drew.cell? ⟨B, 11, none⟩ = some (.bool x.down) /\ w.drew.cell? ⟨B, 12, none⟩ = some (.bool x.broken) /\ w.drew.cell? ⟨g, m * 4, none⟩ = some (.slice a0 ss.length c0) /\ w.drew.cell? ⟨g, m * 4 + 1, none⟩ = some (.slice a1 cs.length c1) /\ w.drew.cell? ⟨g, m * 4 + 2, none⟩ = some (.bool f) /\ w.drew.cell? ⟨g, m * 4 + 3, none⟩ = some (.slice a3 bs.length c3) := ⟨cp, cq, k0, k1, k2, k3, k4, k5, k6, k7, k8, k9, k10, k11, k12, q0, q1, q2, q3⟩
 have i1 : (0 : Int) <= (m : Int) := by omega
 have i3 : (m : Int) < (ms.length : Int) := by omega
 clear X X0 hmm hdd p0 p1 p3 hM hdj hgm hdis
 go_enter Tryz.func229, Tryz.ntmps229
 go_wp2_with fail
 refine Upto.start (S := fun w' => w'.cell? ⟨p, 0, none⟩ = some (.pointer (some ⟨B, 0, none⟩)) /\ w'.cell? ⟨q, 0, none⟩ = some (.int .i64 (m : Int)) /\ w'.cell? ⟨B, 0, none⟩ = some (.int .i64 x.id) /\ w'.cell? ⟨B, 1, none⟩ = some (.int .i64 x.n) /\ w'.cell? ⟨B, 2, none⟩ = some (.int .i64 x.s) /\ w'.cell? ⟨B, 3, none⟩ = some (.slice (some ⟨g, 0, none⟩) ms.length cm) /\ w'.cell? ⟨B, 4, none⟩ = some (.int .i64 x.lost) /\ w'.cell? ⟨B, 5, none⟩ = some (.int .i64 x.built) /\ w'.cell? ⟨B, 6, none⟩ = some (.int .i64 x.seq) /\ w'.cell? ⟨B, 7, none⟩ = some (.int .i64 x.tail) /\ w'.cell? ⟨B, 8, none⟩ = some (.int .i64 x.gen) /\ w'.cell? ⟨B, 9, none⟩ = some (.slice bd ds.length cd) /\ w'.cell? ⟨B, 10, none⟩ = some (.int .i64 x.fuse) /\ w'.cell? ⟨B, 11, none⟩ = some (.bool x.down) /\ w'.cell? ⟨B, 12, none⟩ = some (.bool x.broken) /\ w'.cell? ⟨g, m * 4, none⟩ = some (.slice a0 ss.length c0) /\ w'.cell? ⟨g, m * 4 + 1, none⟩ = some (.slice a1 cs.length c1) /\ w'.cell? ⟨g, m * 4 + 2, none⟩ = some (.bool f) /\ w'.cell? ⟨g, m * 4 + 3, none⟩ = some (.slice a3 bs.length c3)) (k := 19) (by kernel_rfl) ?_
 refine Upto.t 0 hS ?_
 refine Upto.t 1 hS ?_
 refine Upto.t 2 hS ?_
 refine Upto.t 3 hS ?_
 refine Upto.t 4 hS ?_
 refine Upto.t 5 hS ?_
 refine Upto.t 6 hS ?_
 refine Upto.t 7 hS ?_
 refine Upto.t 8 hS ?_
 refine Upto.t 9 hS ?_
 refine Upto.t 10 hS ?_
 refine Upto.t 11 hS ?_
 refine Upto.t 12 hS ?_
 refine Upto.t 13 hS ?_
 refine Upto.t 14 hS ?_
 refine Upto.t 15 hS ?_
 refine Upto.one (i := 16) (by kernel_rfl) rfl (fun K hK => ?_)
 go_simp
 refine (superFor_any _ x _ _ _ _ _ _ (m : Int)).mono ?_
 rintro e w1 ⟨rfl, b1'⟩
 have b1 : Below w.heap.size w w1 := (Below.refl w.heap.size w).drew.trans b1'
 have hS1 : w1.cell? ⟨p, 0, none⟩ = some (.pointer (some ⟨B, 0, none⟩)) /\ w1.cell? ⟨q, 0, none⟩ = some (.int .i64 (m : Int)) /\ w1.cell? ⟨B, 0, none⟩ = some (.int .i64 x.id) /\ w1.cell? ⟨B, 1, none⟩ = some (.int .i64 x.n) /\ w1.cell? ⟨B, 2, none⟩ = some (.int .i64 x.s) /\ w1.cell? ⟨B, 3, none⟩ = some (.slice (some ⟨g, 0, none⟩) ms.length cm) /\ w1.cell? ⟨B, 4, none⟩ = some (.int .i64 x.lost) /\ w1.cell? ⟨B, 5, none⟩ = some (.int .i64 x.built) /\ w1.cell? ⟨B, 6, none⟩ = some (.int .i64 x.seq) /\ w1.cell? ⟨B, 7, none⟩ = some (.int .i64 x.tail) /\ w1.cell? ⟨B, 8, none⟩ = some (.int .i64 x.gen) /\ w1.cell? ⟨B, 9, none⟩ = some (.slice bd ds.length cd) /\ w1.cell? ⟨B, 10, none⟩ = some (.int .i64 x.fuse) /\ w1.cell? ⟨B, 11, none⟩ = some (.bool x.down) /\ w1.cell? ⟨B, 12, none⟩ = some (.bool x.broken) /\ w1.cell? ⟨g, m * 4, none⟩ = some (.slice a0 ss.length c0) /\ w1.cell? ⟨g, m * 4 + 1, none⟩ = some (.slice a1 cs.length c1) /\ w1.cell? ⟨g, m * 4 + 2, none⟩ = some (.bool f) /\ w1.cell? ⟨g, m * 4 + 3, none⟩ = some (.slice a3 bs.length c3) := ⟨(b1.cell (p := ⟨p, 0, none⟩) zp).trans cp, (b1.cell (p := ⟨q, 0, none⟩) zq).trans cq, (b1.cell (p := ⟨B, 0, none⟩) zB).trans k0, (b1.cell (p := ⟨B, 1, none⟩) zB).trans k1, (b1.cell (p := ⟨B, 2, none⟩) zB).trans k2, (b1.cell (p := ⟨B, 3, none⟩) zB).trans k3, (b1.cell (p := ⟨B, 4, none⟩) zB).trans k4, (b1.cell (p := ⟨B, 5, none⟩) zB).trans k5, (b1.cell (p := ⟨B, 6, none⟩) zB).trans k6, (b1.cell (p := ⟨B, 7, none⟩) zB).trans k7, (b1.cell (p := ⟨B, 8, none⟩) zB).trans k8, (b1.cell (p := ⟨B, 9, none⟩) zB).trans k9, (b1.cell (p := ⟨B, 10, none⟩) zB).trans k10, (b1.cell (p := ⟨B, 11, none⟩) zB).trans k11, (b1.cell (p := ⟨B, 12, none⟩) zB).trans k12, (b1.cell (p := ⟨g, m * 4, none⟩) hgl).trans q0, (b1.cell (p := ⟨g, m * 4 + 1, none⟩) hgl).trans q1, (b1.cell (p := ⟨g, m * 4 + 2, none⟩) hgl).trans q2, (b1.cell (p := ⟨g, m * 4 + 3, none⟩) hgl).trans q3⟩
 have zb1 := b1.size
 have B1 := hidden b1
 clear b1 b1'
 go_wp2_with fail
 refine hK.out _ _ (fun _ => hS1) ?_
 clear hK K
 refine Upto.one (i := 17) (by kernel_rfl) rfl (fun K hK => ?_)
 go_simp
 refine (implWriteSuper_any _ 159 _ _ _ _ _ _ _ _ _ ss cs f bs (supA x m) (R0.out.below B1.out) (R1.out.below B1.out) (R3.out.below B1.out) (by omega)).mono ?_
 rintro e w2 ⟨u0, u1, u3, rfl, o2, b2'⟩
 have b2 : Below w.heap.size w w2 := Below.andThen B1.out b2'
 have o2b : (tMem 159).Own w2 w.heap.size w2.heap.size [u0, u1, .bool f, u3] _ := o2.widen zb1 (Nat.le_refl _)
 obtain ⟨d0, l0, f0, d1, l1, f1, d3, l3, f3, hv0, hv1, hv3⟩ := mem_slices o2b
 subst hv0 hv1 hv3
 obtain ⟨fpx, mx, rx⟩ := o2b.mine
 obtain ⟨cOld, fz, hgm, fm9, hA9, hMv9⟩ := arr_store (m := m) XH.out MH.out DH.out hr r1 r2 b2 (by omega) mx (fun b hb => (rx b hb).1)
 obtain ⟨o0, t0⟩ := cOld 0 (by omega)
 obtain ⟨o1, t1⟩ := cOld 1 (by omega)
 obtain ⟨o2', t2⟩ := cOld 2 (by omega)
 obtain ⟨o3, t3⟩ := cOld 3 (by omega)
 rw [Nat.add_zero] at t0
 have HA := hidden hA9
 have HMV := hidden hMv9
 have hS2 : w2.cell? ⟨p, 0, none⟩ = some (.pointer (some ⟨B, 0, none⟩)) /\ w2.cell? ⟨q, 0, none⟩ = some (.int .i64 (m : Int)) /\ w2.cell? ⟨B, 0, none⟩ = some (.int .i64 x.id) /\ w2.cell? ⟨B, 1, none⟩ = some (.int .i64 x.n) /\ w2.cell? ⟨B, 2, none⟩ = some (.int .i64 x.s) /\ w2.cell? ⟨B, 3, none⟩ = some (.slice (some ⟨g, 0, none⟩) ms.length cm) /\ w2.cell? ⟨B, 4, none⟩ = some (.int .i64 x.lost) /\ w2.cell? ⟨B, 5, none⟩ = some (.int .i64 x.built) /\ w2.cell? ⟨B, 6, none⟩ = some (.int .i64 x.seq) /\ w2.cell? ⟨B, 7, none⟩ = some (.int .i64 x.tail) /\ w2.cell? ⟨B, 8, none⟩ = some (.int .i64 x.gen) /\ w2.cell? ⟨B, 9, none⟩ = some (.slice bd ds.length cd) /\ w2.cell? ⟨B, 10, none⟩ = some (.int .i64 x.fuse) /\ w2.cell? ⟨B, 11, none⟩ = some (.bool x.down) /\ w2.cell? ⟨B, 12, none⟩ = some (.bool x.broken) /\ w2.cell? ⟨g, m * 4, none⟩ = some (.slice a0 ss.length c0) /\ w2.cell? ⟨g, m * 4 + 1, none⟩ = some (.slice a1 cs.length c1) /\ w2.cell? ⟨g, m * 4 + 2, none⟩ = some (.bool f) /\ w2.cell? ⟨g, m * 4 + 3, none⟩ = some (.slice a3 bs.length c3) := ⟨(b2.cell (p := ⟨p, 0, none⟩) zp).trans cp, (b2.cell (p := ⟨q, 0, none⟩) zq).trans cq, (b2.cell (p := ⟨B, 0, none⟩) zB).trans k0, (b2.cell (p := ⟨B, 1, none⟩) zB).trans k1, (b2.cell (p := ⟨B, 2, none⟩) zB).trans k2, (b2.cell (p := ⟨B, 3, none⟩) zB).trans k3, (b2.cell (p := ⟨B, 4, none⟩) zB).trans k4, (b2.cell (p := ⟨B, 5, none⟩) zB).trans k5, (b2.cell (p := ⟨B, 6, none⟩) zB).trans k6, (b2.cell (p := ⟨B, 7, none⟩) zB).trans k7, (b2.cell (p := ⟨B, 8, none⟩) zB).trans k8, (b2.cell (p := ⟨B, 9, none⟩) zB).trans k9, (b2.cell (p := ⟨B, 10, none⟩) zB).trans k10, (b2.cell (p := ⟨B, 11, none⟩) zB).trans k11, (b2.cell (p := ⟨B, 12, none⟩) zB).trans k12, (b2.cell (p := ⟨g, m * 4, none⟩) hgl).trans q0, (b2.cell (p := ⟨g, m * 4 + 1, none⟩) hgl).trans q1, (b2.cell (p := ⟨g, m * 4 + 2, none⟩) hgl).trans q2, (b2.cell (p := ⟨g, m * 4 + 3, none⟩) hgl).trans q3⟩
 have gB : ¬ g = B := fun e => r1 (e ▸ hgm)
 unfold put4 at HA HMV
 clear cp cq k0 k1 k2 k3 k4 k5 k6 k7 k8 k9 k10 k11 k12 q0 q1 q2 q3 o2 o2b b2 b2' mx rx cOld hA9 hMv9 XH MH DH R0 R1 R3 hwt hS1 B1
 go_wp2_with fail
 refine hK.out _ _ (fun _ => hS2) ?_
 clear hK K
 refine Upto.t 18 hS2 ?_
 refine Upto.one (i := 19) (by kernel_rfl) rfl (fun K hK => ?_)
 go_simp
 refine hK.out _ _ (fun h => absurd rfl h) ?_
 clear hK K
 refine Upto.done (by kernel_rfl) ?_ _
 clear hS hS2 t0 t1 t2 t3 fz
 go_wp2
 refine bodyPost_end (v := .tuple #[]) (results_none rfl _ _ _) rfl ?_
 refine ⟨rfl, fm9, ?_, HMV.out⟩
 show ArrAt _ B x (ms.set m (opF (supK m) x (ms.getD m memZ))) ds fm9 fd
 rw [HG.out]
 exact HA.out

theorem superOp_any (w : World) (B m : Nat) : Calls Tryz.prog 187 #[.pointer (some ⟨B, 0, none⟩), .int .i64 (m : Int)] w fun e w' => ∃ v, e = .returned v /\ (opTy B).Own w' w.heap.size w'.heap.size [v] (supK m) /\ Below w.heap.size w w' := by
 have hmf : ∀ (fn : Fn) (first cap : Array Value) (w : World), (Instr.makeFunc fn first cap).run Tryz.prog w = .ok (.func fn first cap) w := fun _ _ _ _ => rfl
 have hb : Below w.heap.size w ((w.alloc (.cells #[.pointer (some ⟨B, 0, none⟩)] 72)).alloc (.cells #[.int .i64 (m : Int)] 3)) := ((Below.refl _ _).alloc (Nat.le_refl _) _).alloc (by simp) _
 have b0 : Box ((w.alloc (.cells #[.pointer (some ⟨B, 0, none⟩)] 72)).alloc (.cells #[.int .i64 (m : Int)] 3)) w.heap.size 72 #[.pointer (some ⟨B, 0, none⟩)] := (Box.new w _ _).alloc _
 have b1 := Box.new (w.alloc (.cells #[.pointer (some ⟨B, 0, none⟩)] 72)) 3 #[.int .i64 (m : Int)]
 rw [World.size_alloc] at b1
 have hsz : ((w.alloc (.cells #[.pointer (some ⟨B, 0, none⟩)] 72)).alloc (.cells #[.int .i64 (m : Int)] 3)).heap.size = w.heap.size + 1 + 1 := by simp
 have HO : Hid ((opTy B).Own ((w.alloc (.cells #[.pointer (some ⟨B, 0, none⟩)] 72)).alloc (.cells #[.int .i64 (m : Int)] 3)) w.heap.size ((w.alloc (.cells #[.pointer (some ⟨B, 0, none⟩)] 72)).alloc (.cells #[.int .i64 (m : Int)] 3)).heap.size [.func (Fn.func 229) #[] #[.pointer (some ⟨w.heap.size, 0, none⟩), .pointer (some ⟨w.heap.size + 1, 0, none⟩)]] (supK m)) := by
  refine ⟨[w.heap.size, w.heap.size + 1], ⟨229, _, rfl, ?_, ?_, fun w' hk hs => ?_⟩, ?_, ?_⟩
  . exact enters_of Tryz.func229 (by kernel_rfl) (by kernel_rfl) _
  . intro b hb'; simp at hb'; omega
  . exact superOp1_runs w' B _ _ m (b0.kept (hk _ (by simp))) (b1.kept (hk _ (by simp)))
  . simp
  . intro b hb'; simp at hb'; omega
 have HB := hidden hb
 clear hb b0 b1 hsz
 go_enter Tryz.func187, Tryz.ntmps187
 go_wp2
 go_ret
 exact ⟨_, rfl, HO.out, HB.out⟩

theorem superWrites1_any (w : World) (B p m : Nat) (hp : Box w p 72 #[.pointer (some ⟨B, 0, none⟩)]) : Calls Tryz.prog 186 #[.int .i64 (m : Int), .pointer (some ⟨p, 0, none⟩)] w fun e w' => ∃ v, e = .returned v /\ (opTy B).Own w' w.heap.size w'.heap.size [v] (supK m) /\ Below w.heap.size w w' := by
 have c0 : w.cell? ⟨p, 0, none⟩ = some (.pointer (some ⟨B, 0, none⟩)) := hp.cell 0
 go_enter Tryz.func186, Tryz.ntmps186
 go_wp2_with fail
 refine (superOp_any _ B m).mono ?_
 rintro e w1 ⟨v, rfl, ov, b1⟩
 have OV := hidden ov
 have B1 := hidden b1
 clear ov b1
 go_wp2
 go_ret
 exact ⟨_, rfl, OV.out, B1.out⟩

theorem superWrites_any (w : World) (B : Nat) (x : ArrN) (ms : List MemD) (ds : List (Int × List Int)) (fm fd : List Nat) (h : ArrAt w B x ms ds fm fd) (hl : ms.length <= 2097152) : Calls Tryz.prog 136 #[.pointer (some ⟨B, 0, none⟩)] w fun e w' => ∃ bo co, e = .returned (.slice bo (opsL supK ms ms.length).length co) /\ (tOps B).Own w' w.heap.size w'.heap.size [.slice bo (opsL supK ms ms.length).length co] (opsL supK ms ms.length) /\ Below w.heap.size w w' := by
 have hmf : ∀ (fn : Fn) (first cap : Array Value) (w : World), (Instr.makeFunc fn first cap).run Tryz.prog w = .ok (.func fn first cap) w := fun _ _ _ _ => rfl
 have bA := new_below w (.cells #[.pointer (some ⟨B, 0, none⟩)] 72)
 have bx := Box.new w 72 #[.pointer (some ⟨B, 0, none⟩)]
 have HA := hidden (h.alloc (.cells #[.pointer (some ⟨B, 0, none⟩)] 72))
 have hlt := bx.lt
 clear h
 go_enter Tryz.func136, Tryz.ntmps136
 go_wp2_with fail
 refine (opsOf_any _ B x ms ds fm fd HA.out hl supK 186 #[.pointer (some ⟨w.heap.size, 0, none⟩)] (fun m => enters_of Tryz.func186 (by kernel_rfl) (by kernel_rfl) _) (fun m w' hm hb => ?_)).mono ?_
 . exact superWrites1_any w' B _ m (bx.below hb hlt)
 rintro e w1 ⟨bo, co, rfl, oo, b1⟩
 have OO := hidden (oo.widen (lo' := w.heap.size) (hi' := w1.heap.size) (by simp) (Nat.le_refl _))
 have B1 := hidden (Below.andThen bA b1)
 clear oo b1 bA bx
 go_wp2
 go_ret
 exact ⟨_, _, rfl, OO.out, B1.out⟩

theorem arr_marked {w : World} {B : Nat} {x : ArrN} {ms : List MemD} {ds : List (Int × List Int)} {fm fd : List Nat} (h : ArrAt w B x ms ds fm fd) : ArrAt (w.setCell ⟨B, 8, none⟩ (.int .i64 (x.gen + 1))) B {x with gen := x.gen + 1} ms ds fm fd := by
 obtain ⟨bm, bd, cm, cd, X, hm, hd, hr, r1, r2⟩ := h
 exact ⟨bm, bd, cm, cd, X.set 8 _, hm.setCell r1 _, hd.setCell r2 _, hr, r1, r2⟩
theorem arr_tail {w : World} {B : Nat} {x : ArrN} {ms : List MemD} {ds : List (Int × List Int)} {fm fd : List Nat} (h : ArrAt w B x ms ds fm fd) : ArrAt (w.setCell ⟨B, 7, none⟩ (.int .i64 x.seq)) B {x with tail := x.seq} ms ds fm fd := by
 obtain ⟨bm, bd, cm, cd, X, hm, hd, hr, r1, r2⟩ := h
 exact ⟨bm, bd, cm, cd, X.set 7 _, hm.setCell r1 _, hd.setCell r2 _, hr, r1, r2⟩
def SupFit (x : ArrN) (n : Nat) : Prop := ∀ i : Nat, i < n -> supB (supA x i) = true
theorem sup_fit {x : ArrN} {ms : List MemD} {ds : List (Int × List Int)} (h : arrB x ms ds = true) (hg : x.gen < 60000) (t : Int) (ht : t = x.tail ∨ t = x.seq) : SupFit {x with gen := x.gen + 1, tail := t} ms.length := by
 intro i hi
 have hl := arr_len h
 unfold arrB lostB6 seqB6 at h
 simp only [Bool.and_eq_true, geoB_iff, inB_iff, decide_eq_true_eq, Bool.or_eq_true, Bool.not_eq_true', decide_eq_false_iff_not] at h
 obtain ⟨hgeo, hid, _, _, ⟨hlo, hbu, hlb⟩, htl, hsq, _, hgen, _⟩ := h
 rw [supB_iff]
 unfold supA
 dsimp only
 refine ⟨hgeo, ?_, ⟨by omega, by omega⟩, hid, ⟨by omega, by omega⟩, ⟨by rcases ht with rfl | rfl <;> omega, by rcases ht with rfl | rfl <;> omega⟩⟩
 by_cases e : x.lost = -1
 . exact .inl ⟨e, hlb.resolve_left (fun h => h e)⟩
 . exact .inr ⟨e, by omega, hlo.2, hbu.1, hbu.2⟩
theorem run_mark {x : ArrN} {ms : List MemD} (hM : MsOk ms) (hf : x.fuse <= 1000) (hu : SupFit {x with gen := x.gen + 1} ms.length) : runS ({x with gen := x.gen + 1}, ms) (opsL supK ms ms.length) = supsS ({x with gen := x.gen + 1}, ms) ms.length :=
 run_sups (q := ({x with gen := x.gen + 1}, ms)) hM hf hu ms.length (Nat.le_refl _)
theorem syncS_down {q : ArrN × List MemD} (h : q.1.down = true) : ∀ j, syncS q j = q
 | 0 => rfl
 | j + 1 => by rw [syncS_succ, syncS_down h j, doS_down _ _ h]

theorem markI_any (w : World) (B : Nat) (x : ArrN) (ms : List MemD) (ds : List (Int × List Int)) (fm fd : List Nat) (h : ArrAt w B x ms ds fm fd) (hf : x.fuse <= 1000) (hdn : x.down = false) (hM : MsOk ms) (hl : ms.length <= 2097152) (hg0 : 0 <= x.gen) (hg : x.gen < 60000) (hu : SupFit {x with gen := x.gen + 1} ms.length) : Calls Tryz.prog 65 #[.pointer (some ⟨B, 0, none⟩)] w (Did w B fm ds fd (markS (x, ms))) := by
 have k8 : w.cell? ⟨B, 8, none⟩ = some (.int .i64 x.gen) := by
  obtain ⟨bm, bd, cm, cd, X, _⟩ := h
  unfold arrC at X
  exact X.cells13.2.2.2.2.2.2.2.2.1
 have fz : ∀ j, w.frozen? ⟨B, j, none⟩ = false := by
  obtain ⟨bm, bd, cm, cd, X, _⟩ := h
  exact X.frozen
 have hw1 : IntKind.i64.wrap (x.gen + 1) = x.gen + 1 := IntWalk.i64_in _ (by omega)
 have HA := hidden (arr_marked h)
 have MS := hidden (Moved.set (B := B) (j := 8) (fm := fm) (w := w) (.int .i64 (x.gen + 1)))
 have HR := hidden (run_mark hM hf hu)
 have HF : Hid (x.fuse <= 1000 /\ x.down = false) := ⟨hf, hdn⟩
 have HMK : Hid (markS (x, ms) = syncS (supsS ({x with gen := x.gen + 1}, ms) ms.length) ms.length) := rfl
 have HK := hidden (supsS_keeps (q := ({x with gen := x.gen + 1}, ms)) hM hf ms.length)
 have hlB := HA.out.lt
 have hlm := HA.out.ltm.1
 clear h hf hdn hg0 hg hu
 go_enter Tryz.func65, Tryz.ntmps65
 go_wp2_with fail
 clear k8 fz
 generalize w.setCell ⟨B, 8, none⟩ (.int .i64 (x.gen + 1)) = w0 at HA MS hlB hlm ⊢
 refine (superWrites_any _ B {x with gen := x.gen + 1} ms ds fm fd HA.out hl).mono ?_
 rintro e w1 ⟨bo, co, rfl, oo, b1⟩
 obtain ⟨fo, mo, ro⟩ := oo.mine
 have HP := hidden (perform_any w1 B {x with gen := x.gen + 1} ms ds fm fd (HA.out.below b1) HF.out.1 HF.out.2 hM bo co (opsL supK ms ms.length) fo mo (fun b hb => ⟨fun e => by have := (ro b hb).1; omega, fun hm => by have h1 := (ro b hb).1; have h2 := hlm b hm; omega⟩) (fun o ho => by
  obtain ⟨i, hi, hfl, rfl⟩ := opsL_mem ho
  exact ⟨hi, hfl⟩))
 have MB := hidden (MS.out.below b1)
 clear oo mo ro b1 hlm HA MS
 go_wp2_with fail
 refine HP.out.mono ?_
 rintro e w2 hd
 rw [HR.out] at hd
 obtain ⟨he, fm2, hA2, hMv2⟩ := hd
 have MV2 := hidden (MB.out.trans hMv2)
 obtain ⟨kM, kS, kL⟩ := HK.out
 clear hMv2 HR HP HK MB
 generalize supsS ({x with gen := x.gen + 1}, ms) ms.length = st at he hA2 HMK kM kS kL
 obtain ⟨y, ns⟩ := st
 dsimp only at he hA2 kM kS kL
 have hfy := kS.2.2.2.2.2.2.2.2.2.1
 unfold EndOf at he
 cases hst : y.down
 . rw [if_neg (by simp [hst])] at he
   subst he
   have HS := hidden (syncDisks_any w2 B y ns ds fm2 fd hA2 hfy hst kM (by omega))
   rw [kL] at HS
   clear hst hA2
   go_wp2_with fail
   refine HS.out.mono ?_
   rintro e w3 ⟨he, fm3, hA3, hMv3⟩
   have HD : Hid (Did w B fm ds fd (markS (x, ms)) e w3) := by
    unfold Hid
    rw [HMK.out]
    exact ⟨he, fm3, hA3, MV2.out.trans hMv3⟩
   unfold EndOf at he
   clear hA3 hMv3
   cases hst : (syncS (y, ns) ms.length).1.down
   . rw [if_neg (by simp [hst])] at he
     subst he
     clear hst
     go_wp2
     refine bodyPost_end (v := .tuple #[]) (results_none rfl _ _ _) rfl ?_
     exact HD.out
   . rw [if_pos hst] at he
     subst he
     clear hst
     go_wp2
     exact ⟨rfl, HD.out⟩
 . rw [if_pos hst] at he
   subst he
   have HD : Hid (Did w B fm ds fd (markS (x, ms)) (.panicked goneC) w2) := by
    unfold Hid
    rw [HMK.out, syncS_down hst]
    exact ⟨EndOf.gone hst, fm2, hA2, MV2.out⟩
   clear hst hA2
   go_wp2
   exact ⟨rfl, HD.out⟩

theorem checkDisks_any (w : World) (B : Nat) (x : ArrN) (ms : List MemD) (ds : List (Int × List Int)) (fm fd : List Nat) (h : ArrAt w B x ms ds fm fd) (ha : arrB x ms ds = true) (hdn : x.down = false) (hg : x.gen < 60000) : Calls Tryz.prog 67 #[.pointer (some ⟨B, 0, none⟩)] w (Did w B fm ds fd (checkS (x, ms))) := by
 obtain ⟨fc, mk, gc0, gc1⟩ := arr_facts ha
 have hl := arr_len ha
 have HU := hidden (sup_fit ha hg x.seq (.inr rfl))
 have HC : Hid (checkS (x, ms) = if (syncS (x, ms) ms.length).1.down = true then syncS (x, ms) ms.length else markS ({(syncS (x, ms) ms.length).1 with tail := (syncS (x, ms) ms.length).1.seq}, (syncS (x, ms) ms.length).2)) := rfl
 have HK := hidden (syncS_keeps (q := (x, ms)) mk fc ms.length)
 have HS := hidden (syncDisks_any w B x ms ds fm fd h fc hdn mk (by omega))
 clear h hdn
 go_enter Tryz.func67, Tryz.ntmps67
 go_wp2_with fail
 refine HS.out.mono ?_
 rintro e w1 ⟨he, fm1, hA1, hMv1⟩
 have MV := hidden hMv1
 obtain ⟨kM, kS, kL⟩ := HK.out
 clear HS HK hMv1
 generalize syncS (x, ms) ms.length = st at he hA1 HC kM kS kL
 obtain ⟨y, ns⟩ := st
 dsimp only at he hA1 kM kS kL HC
 unfold EndOf at he
 cases hst : y.down
 . rw [if_neg (by simp [hst])] at he
   subst he
   obtain ⟨s1, s2, s3, s4, s5, s6, s7, s8, s9, s10, s11⟩ := kS
   have HV : Hid (checkS (x, ms) = markS ({y with tail := y.seq}, ns)) := by unfold Hid; rw [HC.out, if_neg (by simp [hst])]
   have HU2 : Hid (SupFit {({y with tail := y.seq} : ArrN) with gen := y.gen + 1} ns.length) := by
    intro i hi
    have := HU.out i (by omega)
    unfold supA at this ⊢
    dsimp only at this ⊢
    rw [s1, s2, s3, s4, s5, s6, s8]
    exact this
   have c6 : w1.cell? ⟨B, 6, none⟩ = some (.int .i64 y.seq) := by
    obtain ⟨bm, bd, cm, cd, X, _⟩ := hA1
    unfold arrC at X
    exact X.cells13.2.2.2.2.2.2.1
   have c7 : w1.cell? ⟨B, 7, none⟩ = some (.int .i64 y.tail) := by
    obtain ⟨bm, bd, cm, cd, X, _⟩ := hA1
    unfold arrC at X
    exact X.cells13.2.2.2.2.2.2.2.1
   have fz : ∀ j, w1.frozen? ⟨B, j, none⟩ = false := by
    obtain ⟨bm, bd, cm, cd, X, _⟩ := hA1
    exact X.frozen
   have MV2 := hidden (MV.out.trans (Moved.set (B := B) (j := 7) (fm := fm1) (w := w1) (.int .i64 y.seq)))
   have HM := hidden (markI_any _ B {y with tail := y.seq} ns ds fm1 fd (arr_tail hA1) s10 hst kM (by omega) (by dsimp only; omega) (by dsimp only; omega) HU2.out)
   clear hA1 hst HC HU HU2 s1 s2 s3 s4 s5 s6 s7 s8 s9 s10 s11
   go_wp2_with fail
   refine HM.out.mono ?_
   rintro e w3 ⟨he, fm3, hA3, hMv3⟩
   have HD : Hid (Did w B fm ds fd (checkS (x, ms)) e w3) := by
    unfold Hid
    rw [HV.out]
    exact ⟨he, fm3, hA3, MV2.out.trans hMv3⟩
   unfold EndOf at he
   clear hA3 hMv3 HM MV2
   generalize markS ({y with tail := y.seq}, ns) = st at he HV
   cases hst : st.1.down
   . rw [if_neg (by simp [hst])] at he
     subst he
     clear hst
     go_wp2
     refine bodyPost_end (v := .tuple #[]) (results_none rfl _ _ _) rfl ?_
     exact HD.out
   . rw [if_pos hst] at he
     subst he
     clear hst
     go_wp2
     exact ⟨rfl, HD.out⟩
 . rw [if_pos hst] at he
   subst he
   have HD : Hid (Did w B fm ds fd (checkS (x, ms)) (.panicked goneC) w1) := by
    unfold Hid
    rw [HC.out, if_pos hst]
    exact ⟨EndOf.gone hst, fm1, hA1, MV.out⟩
   clear hst hA1
   go_wp2
   exact ⟨rfl, HD.out⟩

theorem putInJournal_any (w : World) (B : Nat) (x : ArrN) (ms : List MemD) (ds : List (Int × List Int)) (fm fd : List Nat) (h : ArrAt w B x ms ds fm fd) (kf : x.fuse <= 1000) (hyd : x.down = false) (kM : MsOk ms) (hn5 : ms.length <= 5) (q s : Int) (ar : Option Addr) (cr : Nat) (zs : List Int) (h5 : tIntS.Rd w [.slice ar zs.length cr] zs) (hz4 : zs.length <= 4) :
 Calls Tryz.prog 115 #[.pointer (some ⟨B, 0, none⟩), .agg #[.int .i64 q, .int .i64 s, .slice ar zs.length cr]] w (Did w B fm ds fd (syncS (recsS (x, ms) (slotN q) (putR q s zs) ms.length) ms.length)) := by
 have nb := new_below w (.cells #[.int .i64 q, .int .i64 s, .slice ar zs.length cr] 121)
 have XR := Box.new w 121 #[.int .i64 q, .int .i64 s, .slice ar zs.length cr]
 obtain ⟨k0, k1, k2⟩ := XR.cells3
 have HA1 := hidden (h.below nb)
 have H5a := hidden (h5.below nb)
 have MV := hidden ((Moved.refl B fm w).below nb)
 clear XR nb h h5
 go_enter Tryz.func115, Tryz.ntmps115
 go_wp2_with fail
 generalize w.alloc (.cells #[.int .i64 q, .int .i64 s, .slice ar zs.length cr] 121) = w1 at HA1 H5a MV k0 k1 k2 ⊢
 have zw := HA1.out.lt
 have zfm := HA1.out.ltm.1
 refine (recWrites_any _ B x ms ds fm fd HA1.out (by omega) q s ar cr zs H5a.out (by omega)).mono ?_
 rintro e w2 ⟨bo, co, rfl, oo, b2⟩
 obtain ⟨fo, mo, ro⟩ := oo.mine
 have HP := hidden (perform_any w2 B x ms ds fm fd (HA1.out.below b2) kf hyd kM bo co (opsL (wrK (slotN q) (putR q s zs)) ms ms.length) fo mo (fun b hb => ⟨fun e => by have := (ro b hb).1; omega, fun hm => by have h1 := (ro b hb).1; have h2 := zfm b hm; omega⟩) (fun o ho => by
  obtain ⟨i, hi, hfl, rfl⟩ := opsL_mem ho
  exact ⟨hi, hfl⟩))
 have HRR : Hid (runS (x, ms) (opsL (wrK (slotN q) (putR q s zs)) ms ms.length) = recsS (x, ms) (slotN q) (putR q s zs) ms.length) := run_recs (x, ms) _ _ _
 have FR := hidden (fit_recs (q := (x, ms)) kM kf (slotN q) (putR q s zs) ms.length)
 have MV2 := hidden (MV.out.below b2)
 clear oo mo ro b2 k0 k1 k2 HA1 zfm kM kf
 go_wp2_with fail
 refine HP.out.mono ?_
 rintro e w3 hd
 rw [HRR.out] at hd
 obtain ⟨he, fm3, hA3, hMv3⟩ := hd
 have MV3 := hidden (MV2.out.trans hMv3)
 clear HP HRR MV2 hMv3
 generalize hst0 : recsS (x, ms) (slotN q) (putR q s zs) ms.length = st at he hA3 FR
 have HE := hidden hst0
 clear hst0
 obtain ⟨v, os⟩ := st
 dsimp only at he hA3
 obtain ⟨rM, rL, _, _, _, rf⟩ := FR.out
 dsimp only at rM rL rf
 have HOL := hidden rL
 unfold EndOf at he
 cases hvd : v.down
 . rw [if_neg (by simp [hvd])] at he
   subst he
   have HSY := hidden (syncDisks_any w3 B v os ds fm3 fd hA3 rf hvd rM (by omega))
   rw [HOL.out] at HSY
   clear hvd hA3 rM rL rf FR
   go_wp2_with fail
   refine HSY.out.mono ?_
   rintro e w4 ⟨he, fm4, hA4, hMv4⟩
   have HDD : Hid (Did w B fm ds fd (syncS (recsS (x, ms) (slotN q) (putR q s zs) ms.length) ms.length) e w4) := by unfold Hid; rw [HE.out]; exact ⟨he, fm4, hA4, MV3.out.trans hMv4⟩
   clear HSY MV3 hMv4 hA4
   generalize syncS (v, os) ms.length = st at he
   unfold EndOf at he
   cases hst : st.1.down
   . rw [if_neg (by simp [hst])] at he
     subst he
     clear hst
     go_wp2
     refine bodyPost_end (v := .tuple #[]) (results_none rfl _ _ _) rfl ?_
     exact HDD.out
   . rw [if_pos hst] at he
     subst he
     clear hst
     go_wp2
     exact ⟨rfl, HDD.out⟩
 . rw [if_pos hvd] at he
   subst he
   have HDD : Hid (Did w B fm ds fd (syncS (recsS (x, ms) (slotN q) (putR q s zs) ms.length) ms.length) (.panicked goneC) w3) := by unfold Hid; rw [HE.out, syncS_down hvd]; exact ⟨EndOf.gone hvd, fm3, hA3, MV3.out⟩
   clear hvd hA3
   go_wp2
   exact ⟨rfl, by first | exact HDD.out | (have h := HDD.out; rw [HE.out] at h; exact h)⟩

theorem out_wt {ps ms : List MemD} {ds : List (Int × List Int)} (h : MsOk ps) (hl : ps.length <= 5) (hw : wtArr ms ds <= 2000000) : wtArr ps ds <= 2097152 := by
 have h2 := ms_light h hl
 unfold wtArr at hw ⊢
 omega
theorem arr_seq {w : World} {B : Nat} {x : ArrN} {ms : List MemD} {ds : List (Int × List Int)} {fm fd : List Nat} (h : ArrAt w B x ms ds fm fd) : ArrAt (w.setCell ⟨B, 6, none⟩ (.int .i64 (x.seq + 1))) B {x with seq := x.seq + 1} ms ds fm fd := by
 obtain ⟨bm, bd, cm, cd, X, hm, hd, hr, r1, r2⟩ := h
 exact ⟨bm, bd, cm, cd, X.set 6 _, hm.setCell r1 _, hd.setCell r2 _, hr, r1, r2⟩
theorem arr_seqc {w : World} {B : Nat} {x : ArrN} {ms : List MemD} {ds : List (Int × List Int)} {fm fd : List Nat} (h : ArrAt w B x ms ds fm fd) : w.cell? ⟨B, 6, none⟩ = some (.int .i64 x.seq) /\ ∀ j, w.frozen? ⟨B, j, none⟩ = false := by
 obtain ⟨bm, bd, cm, cd, X, _⟩ := h
 exact ⟨by unfold arrC at X; exact X.cells13.2.2.2.2.2.2.1, X.frozen⟩

theorem slotsFull_any (w : World) (x : ArrN) (am ad : Option Addr) (nm cm nd cd : Nat) (hq : -100000 <= x.seq /\ x.seq <= 100000) (ht : -100000 <= x.tail /\ x.tail <= 100000) : Calls Tryz.prog 114 #[.agg #[.int .i64 x.id, .int .i64 x.n, .int .i64 x.s, .slice am nm cm, .int .i64 x.lost, .int .i64 x.built, .int .i64 x.seq, .int .i64 x.tail, .int .i64 x.gen, .slice ad nd cd, .int .i64 x.fuse, .bool x.down, .bool x.broken]] w fun e w' => e = .returned (.bool (decide (x.seq - x.tail = 4))) /\ Below w.heap.size w w' := by
 have hw : IntKind.i64.wrap (x.seq - x.tail) = x.seq - x.tail := IntWalk.i64_in _ (by omega)
 have X := Box.new w 29 #[.int .i64 x.id, .int .i64 x.n, .int .i64 x.s, .slice am nm cm, .int .i64 x.lost, .int .i64 x.built, .int .i64 x.seq, .int .i64 x.tail, .int .i64 x.gen, .slice ad nd cd, .int .i64 x.fuse, .bool x.down, .bool x.broken]
 obtain ⟨k0, k1, k2, k3, k4, k5, k6, k7, k8, k9, k10, k11, k12⟩ := X.cells13
 have HB := hidden (new_below w (.cells #[.int .i64 x.id, .int .i64 x.n, .int .i64 x.s, .slice am nm cm, .int .i64 x.lost, .int .i64 x.built, .int .i64 x.seq, .int .i64 x.tail, .int .i64 x.gen, .slice ad nd cd, .int .i64 x.fuse, .bool x.down, .bool x.broken] 29))
 clear X
 go_enter Tryz.func114, Tryz.ntmps114
 go_wp2
 go_ret
 exact ⟨ret_bool (by by_cases h : x.seq - x.tail = 4 <;> simp [h]), HB.out⟩

theorem writeData_any (w : World) (B : Nat) (x : ArrN) (ms : List MemD) (ds : List (Int × List Int)) (fm fd : List Nat) (h : ArrAt w B x ms ds fm fd) (ha : arrB x ms ds = true) (hdn : x.down = false) (hgn : x.gen < 60000) (hsq : ¬ x.seq = 60000) (s : Int) (hs : inB s 0 (x.s - 1) = true) (ar : Option Addr) (cr : Nat) (zs : List Int) (fr : List Nat) (h5 : tIntS.Mine w [.slice ar zs.length cr] zs fr) (h5d : ∀ b ∈ fr, b ≠ B /\ b ∉ fm) (hz : (zs.length : Int) = x.n - 1) (hwt : wtArr ms ds <= 2000000) : Calls Tryz.prog 55 #[.pointer (some ⟨B, 0, none⟩), .int .i64 s, .slice ar zs.length cr] w (Did w B fm ds fd (writeA (x, ms) s zs)) := by
 obtain ⟨fc, mk, gc0, gc1⟩ := arr_facts ha
 have hln := arr_len ha
 have hrg : 0 <= x.tail /\ x.tail <= x.seq /\ x.seq <= 60000 /\ x.seq <= x.tail + 4 /\ geoB x.n x.s = true := by
  unfold arrB seqB6 at ha
  simp only [Bool.and_eq_true, inB_iff, decide_eq_true_eq] at ha
  obtain ⟨hgeo, _, _, _, _, htl, hsq2, hst, _⟩ := ha
  exact ⟨htl.1, hsq2.1, hsq2.2, hst, hgeo⟩
 obtain ⟨t0, t1, t2, t3, hgeo⟩ := hrg
 have FT1 := hidden (fit_wr1 (q := (x, ms)) mk fc)
 have hlB := h.lt
 have hlm := h.ltm.1
 have hl5 := h5.lt
 have hz4 : zs.length <= 4 := by omega
 have hn5 : ms.length <= 5 := by omega
 have HLN : Hid ((ms.length : Int) = x.n /\ (zs.length : Int) = x.n - 1) := ⟨hln.2.2, hz⟩
 have HG := hidden hgeo
 have H5 := hidden h5
 have HD5 := hidden h5d
 have HS := hidden hs
 have HA0 := hidden h
 have HC0 : Hid (∀ w0, Below w.heap.size w w0 -> x.down = false -> Calls Tryz.prog 67 #[.pointer (some ⟨B, 0, none⟩)] w0 (Did w0 B fm ds fd (checkS (x, ms)))) := fun w0 hb hh => checkDisks_any w0 B x ms ds fm fd (h.below hb) ha hh hgn
 have HDN := hidden hdn
 have hwm : wtWrS ds <= 2000000 ∨ True := .inr trivial
 have HWT := hidden hwt
 obtain ⟨bm, bd, cm, cd, X, hmm, hdd, hr, r1, r2⟩ := h
 unfold arrC at X
 obtain ⟨k0, k1, k2, k3, k4, k5, k6, k7, k8, k9, k10, k11, k12⟩ := X.cells13
 have HSQ : Hid (0 <= x.seq /\ x.seq < 60000) := ⟨by omega, by omega⟩
 clear X hmm hdd hr r1 r2 h5 h5d hs hz hln hgeo hgn hdn ha hwm hwt
 go_enter Tryz.func55, Tryz.ntmps55
 go_wp2_with fail
 refine (slotsFull_any _ x _ _ _ _ _ _ ⟨by omega, by omega⟩ ⟨by omega, by omega⟩).mono ?_
 rintro e w0 ⟨rfl, b0⟩
 have MV0 := hidden ((Moved.refl B fm w).below b0)
 have z0 := b0.size
 have HA1 := hidden (HA0.out.below b0)
 clear k0 k1 k2 k3 k4 k5 k6 k7 k8 k9 k10 k11 k12
 by_cases hfull : x.seq - x.tail = 4
 . have HW1 : Hid (wr1 (x, ms) = checkS (x, ms)) := by unfold Hid wr1; rw [if_pos (by dsimp only; omega)]
   rw [decide_eq_true hfull]
   clear hfull
   rw [HW1.out] at FT1
   go_wp2_with fail
   refine (HC0.out w0 b0 HDN.out).mono ?_
   rintro e w1 ⟨he, fm1, hA1, hMv1⟩
   have MV := hidden (MV0.out.trans hMv1)
   have HWA : Hid (writeA (x, ms) s zs = if (checkS (x, ms)).1.down = true then checkS (x, ms) else wrRest (checkS (x, ms)) s zs) := by unfold Hid writeA; rw [HW1.out]
   clear HW1 hMv1 HC0 HA1 b0
   generalize checkS (x, ms) = st at he hA1 HWA FT1
   obtain ⟨y, ns⟩ := st
   dsimp only at he hA1 HWA
   have FT := hidden FT1.out
   have HA1 := hidden hA1
   clear FT1
   unfold EndOf at he
   cases hyd : y.down
   . rw [if_neg (by simp [hyd])] at he
     subst he
     have HW : Hid (writeA (x, ms) s zs = if (wr2 (y, ns) s zs).1.down = true then wr2 (y, ns) s zs else wr3 (wr2 (y, ns) s zs) s zs) := by unfold Hid; rw [HWA.out, if_neg (by simp [hyd])]; rfl
     clear hA1 HWA
     obtain ⟨kM, kL, kn, ks, kq, kf⟩ := FT.out
     dsimp only at kM kL kn ks kq kf
     have HN : Hid (y.n = x.n /\ y.s = x.s /\ y.seq = x.seq /\ ns.length = ms.length) := ⟨kn, ks, kq, kL⟩
     have hn5y : ns.length <= 5 := by omega
     have H5a := hidden (MV.out.mine H5.out (fun hm => (HD5.out B hm).1 rfl) (fun b hb => (HD5.out b hb).2))
     have hd1 : ∀ b ∈ fr, b ≠ B /\ b ∉ fm1 := fun b hb => ⟨(HD5.out b hb).1, fun hm => by
      rcases MV.out.2 b hm with h1 | h1
      . exact (HD5.out b hb).2 h1
      . have := hl5 b hb; omega⟩
     have HD1 := hidden hd1
     have c6 := (arr_seqc HA1.out).1
     have zw := HA1.out.lt
     have zfm := HA1.out.ltm.1
     clear kn ks kq kL hd1
     go_wp2_with fail
     have HR2 : Hid (wr2 (y, ns) s zs = syncS (recsS (y, ns) (slotN y.seq) (putR y.seq s zs) ns.length) ns.length) := rfl
     have FW := hidden (fit_wr2 (q := (y, ns)) kM kf s zs)
     refine (putInJournal_any _ B y ns ds fm1 fd HA1.out kf hyd kM (by omega) y.seq s ar cr zs H5a.out.rd (by omega)).mono ?_
     rintro e w4 hd
     rw [← HR2.out] at hd
     obtain ⟨he, fm4, hA4, hMv4⟩ := hd
     have MV4 := hidden (MV.out.trans hMv4)
     clear hMv4 HR2 c6 HA1 zfm kM kf
     generalize wr2 (y, ns) s zs = st at he hA4 FW HW
     obtain ⟨u, ps⟩ := st
     dsimp only at he hA4 HW
     obtain ⟨uM, uL, un, us, uq, uf⟩ := FW.out
     dsimp only at uM uL un us uq uf
     unfold EndOf at he
     cases hud : u.down
     . rw [if_neg (by simp [hud])] at he
       subst he
       have HW3 : Hid (writeA (x, ms) s zs = wr3 (u, ps) s zs) := by unfold Hid; rw [HW.out, if_neg (by simp [hud])]
       obtain ⟨c6, fz⟩ := arr_seqc hA4
       have HA5 := hidden (arr_seq hA4)
       have MV5 := hidden (MV4.out.trans (Moved.set (B := B) (j := 6) (fm := fm4) (w := w4) (.int .i64 (u.seq + 1))))
       have hwr : IntKind.i64.wrap (u.seq + 1) = u.seq + 1 := IntWalk.i64_in _ (by have h1 := HSQ.out; have h2 := HN.out; omega)
       have HU : Hid (u.n = x.n /\ u.s = x.s /\ ps.length = ms.length) := ⟨un.trans HN.out.1, us.trans HN.out.2.1, uL.trans HN.out.2.2.2⟩
       have hps : ps.length <= 5 := by have := HU.out.2.2; omega
       have H5b := hidden (MV5.out.mine H5.out (fun hm => (HD5.out B hm).1 rfl) (fun b hb => (HD5.out b hb).2))
       have HUF : Hid (u.fuse <= 1000 /\ u.down = false /\ MsOk ps) := ⟨uf, hud, uM⟩
       have HRW : Hid (wr3 (u, ps) s zs = datasS ({u with seq := u.seq + 1}, ps) s (parN u.n u.s s) zs ps.length) := rfl
       have HRN := hidden (run_live (q := ({u with seq := u.seq + 1}, ps)) uM uf s (parN u.n u.s s) zs ps.length)
       clear hA4 hud HW uM uL un us uq uf MV4 FW
       have zf5 := HA5.out.ltm.1
       have zB5 := HA5.out.lt
       go_wp2_with fail
       clear c6 fz
       generalize w4.setCell ⟨B, 6, none⟩ (.int .i64 (u.seq + 1)) = w5 at HA5 MV5 H5b zf5 zB5 ⊢
       refine (wordWrites_any w5 B {u with seq := u.seq + 1} ps ds fm4 fd HA5.out (by have h1 := HU.out; have h2 := HLN.out; dsimp only; omega) (by dsimp only; rw [HU.out.1, HU.out.2.1]; exact HG.out) s (by dsimp only; rw [HU.out.2.1]; exact HS.out) ar cr zs H5b.out.rd (by have h1 := HU.out; have h2 := HLN.out; dsimp only; omega) (out_wt HUF.out.2.2 hps HWT.out)).mono ?_
       rintro e w6 ⟨bo2, co2, rfl, oo, b6⟩
       obtain ⟨fo2, mo, ro⟩ := oo.mine
       have HP := hidden (perform_any w6 B {u with seq := u.seq + 1} ps ds fm4 fd (HA5.out.below b6) HUF.out.1 HUF.out.2.1 HUF.out.2.2 bo2 co2 (liveL {u with seq := u.seq + 1} ps s (parN u.n u.s s) zs ps.length) fo2 mo (fun b hb => ⟨fun e => by have := (ro b hb).1; omega, fun hm => by have h1 := (ro b hb).1; have h2 := zf5 b hm; omega⟩) (fun o ho => liveL_mem ho))
       have MV6 := hidden (MV5.out.below b6)
       clear oo mo ro b6 HA5 MV5 zf5
       go_wp2_with fail
       refine HP.out.mono ?_
       rintro e w7 hd
       rw [HRN.out] at hd
       obtain ⟨he, fm7, hA7, hMv7⟩ := hd
       have HDD : Hid (Did w B fm ds fd (writeA (x, ms) s zs) e w7) := by unfold Hid; rw [HW3.out, HRW.out]; exact ⟨he, fm7, hA7, MV6.out.trans hMv7⟩
       clear hA7 hMv7 HP MV6 HRN HRW HW3
       generalize datasS ({u with seq := u.seq + 1}, ps) s (parN u.n u.s s) zs ps.length = st at he
       unfold EndOf at he
       cases hst : st.1.down
       . rw [if_neg (by simp [hst])] at he
         subst he
         clear hst
         go_wp2
         refine bodyPost_end (v := .tuple #[]) (results_none rfl _ _ _) rfl ?_
         exact HDD.out
       . rw [if_pos hst] at he
         subst he
         clear hst
         go_wp2
         exact ⟨rfl, HDD.out⟩
     . rw [if_pos hud] at he
       subst he
       have HDD : Hid (Did w B fm ds fd (writeA (x, ms) s zs) (.panicked goneC) w4) := by unfold Hid; rw [HW.out, if_pos hud]; exact ⟨EndOf.gone hud, fm4, hA4, MV4.out⟩
       clear hud hA4
       go_wp2
       exact ⟨rfl, HDD.out⟩
   . rw [if_pos hyd] at he
     subst he
     have HDD : Hid (Did w B fm ds fd (writeA (x, ms) s zs) (.panicked goneC) w1) := by unfold Hid; rw [HWA.out, if_pos hyd]; exact ⟨EndOf.gone hyd, fm1, hA1, MV.out⟩
     clear hyd hA1
     go_wp2
     exact ⟨rfl, HDD.out⟩
 . have HW1 : Hid (wr1 (x, ms) = (x, ms)) := by unfold Hid wr1; rw [if_neg (by dsimp only; omega)]
   rw [decide_eq_false hfull]
   clear hfull
   rw [HW1.out] at FT1
   have HW : Hid (writeA (x, ms) s zs = if (wr2 (x, ms) s zs).1.down = true then wr2 (x, ms) s zs else wr3 (wr2 (x, ms) s zs) s zs) := by unfold Hid writeA; rw [HW1.out, if_neg (by dsimp only; simp [HDN.out])]; rfl
   have FT := hidden FT1.out
   have MV := hidden MV0.out
   have hyd := HDN.out
   clear HW1 FT1 HC0 b0 MV0
   obtain ⟨kM, kL, kn, ks, kq, kf⟩ := FT.out
   dsimp only at kM kL kn ks kq kf
   have HN : Hid (x.n = x.n /\ x.s = x.s /\ x.seq = x.seq /\ ms.length = ms.length) := ⟨kn, ks, kq, kL⟩
   have hn5y : ms.length <= 5 := by omega
   have H5a := hidden (MV.out.mine H5.out (fun hm => (HD5.out B hm).1 rfl) (fun b hb => (HD5.out b hb).2))
   have hd1 : ∀ b ∈ fr, b ≠ B /\ b ∉ fm := fun b hb => ⟨(HD5.out b hb).1, fun hm => by
    rcases MV.out.2 b hm with h1 | h1
    . exact (HD5.out b hb).2 h1
    . have := hl5 b hb; omega⟩
   have HD1 := hidden hd1
   have c6 := (arr_seqc HA1.out).1
   have zw := HA1.out.lt
   have zfm := HA1.out.ltm.1
   clear kn ks kq kL hd1
   go_wp2_with fail
   have HR2 : Hid (wr2 (x, ms) s zs = syncS (recsS (x, ms) (slotN x.seq) (putR x.seq s zs) ms.length) ms.length) := rfl
   have FW := hidden (fit_wr2 (q := (x, ms)) kM kf s zs)
   refine (putInJournal_any _ B x ms ds fm fd HA1.out kf hyd kM (by omega) x.seq s ar cr zs H5a.out.rd (by omega)).mono ?_
   rintro e w4 hd
   rw [← HR2.out] at hd
   obtain ⟨he, fm4, hA4, hMv4⟩ := hd
   have MV4 := hidden (MV.out.trans hMv4)
   clear hMv4 HR2 c6 HA1 zfm kM kf
   generalize wr2 (x, ms) s zs = st at he hA4 FW HW
   obtain ⟨u, ps⟩ := st
   dsimp only at he hA4 HW
   obtain ⟨uM, uL, un, us, uq, uf⟩ := FW.out
   dsimp only at uM uL un us uq uf
   unfold EndOf at he
   cases hud : u.down
   . rw [if_neg (by simp [hud])] at he
     subst he
     have HW3 : Hid (writeA (x, ms) s zs = wr3 (u, ps) s zs) := by unfold Hid; rw [HW.out, if_neg (by simp [hud])]
     obtain ⟨c6, fz⟩ := arr_seqc hA4
     have HA5 := hidden (arr_seq hA4)
     have MV5 := hidden (MV4.out.trans (Moved.set (B := B) (j := 6) (fm := fm4) (w := w4) (.int .i64 (u.seq + 1))))
     have hwr : IntKind.i64.wrap (u.seq + 1) = u.seq + 1 := IntWalk.i64_in _ (by have h1 := HSQ.out; have h2 := HN.out; omega)
     have HU : Hid (u.n = x.n /\ u.s = x.s /\ ps.length = ms.length) := ⟨un, us, uL⟩
     have hps : ps.length <= 5 := by have := HU.out.2.2; omega
     have H5b := hidden (MV5.out.mine H5.out (fun hm => (HD5.out B hm).1 rfl) (fun b hb => (HD5.out b hb).2))
     have HUF : Hid (u.fuse <= 1000 /\ u.down = false /\ MsOk ps) := ⟨uf, hud, uM⟩
     have HRW : Hid (wr3 (u, ps) s zs = datasS ({u with seq := u.seq + 1}, ps) s (parN u.n u.s s) zs ps.length) := rfl
     have HRN := hidden (run_live (q := ({u with seq := u.seq + 1}, ps)) uM uf s (parN u.n u.s s) zs ps.length)
     clear hA4 hud HW uM uL un us uq uf MV4 FW
     have zf5 := HA5.out.ltm.1
     have zB5 := HA5.out.lt
     go_wp2_with fail
     clear c6 fz
     generalize w4.setCell ⟨B, 6, none⟩ (.int .i64 (u.seq + 1)) = w5 at HA5 MV5 H5b zf5 zB5 ⊢
     refine (wordWrites_any w5 B {u with seq := u.seq + 1} ps ds fm4 fd HA5.out (by have h1 := HU.out; have h2 := HLN.out; dsimp only; omega) (by dsimp only; rw [HU.out.1, HU.out.2.1]; exact HG.out) s (by dsimp only; rw [HU.out.2.1]; exact HS.out) ar cr zs H5b.out.rd (by have h1 := HU.out; have h2 := HLN.out; dsimp only; omega) (out_wt HUF.out.2.2 hps HWT.out)).mono ?_
     rintro e w6 ⟨bo2, co2, rfl, oo, b6⟩
     obtain ⟨fo2, mo, ro⟩ := oo.mine
     have HP := hidden (perform_any w6 B {u with seq := u.seq + 1} ps ds fm4 fd (HA5.out.below b6) HUF.out.1 HUF.out.2.1 HUF.out.2.2 bo2 co2 (liveL {u with seq := u.seq + 1} ps s (parN u.n u.s s) zs ps.length) fo2 mo (fun b hb => ⟨fun e => by have := (ro b hb).1; omega, fun hm => by have h1 := (ro b hb).1; have h2 := zf5 b hm; omega⟩) (fun o ho => liveL_mem ho))
     have MV6 := hidden (MV5.out.below b6)
     clear oo mo ro b6 HA5 MV5 zf5
     go_wp2_with fail
     refine HP.out.mono ?_
     rintro e w7 hd
     rw [HRN.out] at hd
     obtain ⟨he, fm7, hA7, hMv7⟩ := hd
     have HDD : Hid (Did w B fm ds fd (writeA (x, ms) s zs) e w7) := by unfold Hid; rw [HW3.out, HRW.out]; exact ⟨he, fm7, hA7, MV6.out.trans hMv7⟩
     clear hA7 hMv7 HP MV6 HRN HRW HW3
     generalize datasS ({u with seq := u.seq + 1}, ps) s (parN u.n u.s s) zs ps.length = st at he
     unfold EndOf at he
     cases hst : st.1.down
     . rw [if_neg (by simp [hst])] at he
       subst he
       clear hst
       go_wp2
       refine bodyPost_end (v := .tuple #[]) (results_none rfl _ _ _) rfl ?_
       exact HDD.out
     . rw [if_pos hst] at he
       subst he
       clear hst
       go_wp2
       exact ⟨rfl, HDD.out⟩
   . rw [if_pos hud] at he
     subst he
     have HDD : Hid (Did w B fm ds fd (writeA (x, ms) s zs) (.panicked goneC) w4) := by unfold Hid; rw [HW.out, if_pos hud]; exact ⟨EndOf.gone hud, fm4, hA4, MV4.out⟩
     clear hud hA4
     go_wp2
     exact ⟨rfl, HDD.out⟩

theorem stripe1_any (w : World) (B : Nat) (x : ArrN) (ms : List MemD) (ds : List (Int × List Int)) (fm fd : List Nat) (h : ArrAt w B x ms ds fm fd) (s : Int) (ar : Option Addr) (cr : Nat) (zs : List Int) (fr : List Nat) (p r : Nat) (hp : Box w p 3 #[.int .i64 s]) (hr : Box w r 30 #[.slice ar zs.length cr]) (ha : arrB x ms ds = true) (hdn : x.down = false) (hgn : x.gen < 60000) (hsq : ¬ x.seq = 60000) (hs : inB s 0 (x.s - 1) = true) (h5 : tIntS.Mine w [.slice ar zs.length cr] zs fr) (h5d : ∀ b ∈ fr, b ≠ B /\ b ∉ fm) (hz : (zs.length : Int) = x.n - 1) (hwt : wtArr ms ds <= 2000000) : Calls Tryz.prog 54 #[.pointer (some ⟨B, 0, none⟩), .pointer (some ⟨p, 0, none⟩), .pointer (some ⟨r, 0, none⟩)] w (Did w B fm ds fd (writeA (x, ms) s zs)) := by
 have c0 := hp.cell 0
 have c1 := hr.cell 0
 have HW := hidden (writeData_any w B x ms ds fm fd h ha hdn hgn hsq s hs ar cr zs fr h5 h5d hz hwt)
 clear h ha hdn hgn hsq hs h5 h5d hz hwt hp hr
 go_enter Tryz.func54, Tryz.ntmps54
 go_wp2_with fail
 refine HW.out.mono ?_
 rintro e w1 hd
 have HDD := hidden hd
 obtain ⟨he, _⟩ := hd
 clear HW c0 c1
 unfold EndOf at he
 generalize (writeA (x, ms) s zs).1.down = dn at he
 cases dn
 . rw [if_neg (by simp)] at he
   subst he
   go_wp2
   refine bodyPost_end (v := .tuple #[]) (results_none rfl _ _ _) rfl ?_
   exact HDD.out
 . rw [if_pos rfl] at he
   subst he
   go_wp2
   exact ⟨rfl, HDD.out⟩

theorem writeCode_any (w : World) (E F G : TypeId) (x : ArrN) (am ad : Option Addr) (nm cm nd cd : Nat) (ms : List MemD) (ds : List (Int × List Int)) (h0 : (tMemS E F).Rd w [.slice am nm cm] ms) (h1 : (tWrS G).Rd w [.slice ad nd cd] ds) (hw : wtArr ms ds <= 2097152) (s : Int) (ar : Option Addr) (cr : Nat) (zs : List Int) (h5 : tIntS.Rd w [.slice ar zs.length cr] zs) (hz5 : zs.length <= 2097152) :
 Calls Tryz.prog 51 #[.agg #[.int .i64 x.id, .int .i64 x.n, .int .i64 x.s, .slice am nm cm, .int .i64 x.lost, .int .i64 x.built, .int .i64 x.seq, .int .i64 x.tail, .int .i64 x.gen, .slice ad nd cd, .int .i64 x.fuse, .bool x.down, .bool x.broken], .int .i64 s, .slice ar zs.length cr] w fun e w' => e = .returned (.int .i64 (codeN x ms ds s zs)) /\ Below w.heap.size w w' := by
 have hA := new_below w (.cells #[.int .i64 x.id, .int .i64 x.n, .int .i64 x.s, .slice am nm cm, .int .i64 x.lost, .int .i64 x.built, .int .i64 x.seq, .int .i64 x.tail, .int .i64 x.gen, .slice ad nd cd, .int .i64 x.fuse, .bool x.down, .bool x.broken] 29)
 have X0 := Box.new w 29 #[.int .i64 x.id, .int .i64 x.n, .int .i64 x.s, .slice am nm cm, .int .i64 x.lost, .int .i64 x.built, .int .i64 x.seq, .int .i64 x.tail, .int .i64 x.gen, .slice ad nd cd, .int .i64 x.fuse, .bool x.down, .bool x.broken]
 have zX := X0.lt
 have r0 := h0.below hA
 have r1 := h1.below hA
 have r5 := h5.below hA
 obtain ⟨k0, k1, k2, k3, k4, k5, k6, k7, k8, k9, k10, k11, k12⟩ := X0.cells13
 go_enter Tryz.func51, Tryz.ntmps51
 go_wp2_with fail
 generalize w.alloc (.cells #[.int .i64 x.id, .int .i64 x.n, .int .i64 x.s, .slice am nm cm, .int .i64 x.lost, .int .i64 x.built, .int .i64 x.seq, .int .i64 x.tail, .int .i64 x.gen, .slice ad nd cd, .int .i64 x.fuse, .bool x.down, .bool x.broken] 29) = W at hA X0 zX r0 r1 r5 k0 k1 k2 k3 k4 k5 k6 k7 k8 k9 k10 k11 k12 ⊢
 refine (implArrOk_any _ E F G x _ _ _ _ _ _ ms ds r0 r1 hw).mono ?_
 rintro e w1 ⟨rfl, b1⟩
 have X1 := X0.below b1 zX
 have p5 := r5.below b1
 have B1 := Below.andThen hA b1
 clear k0 k1 k2 k3 k4 k5 k6 k7 k8 k9 k10 k11 k12 X0 r0 r1 r5 b1 hA zX
 obtain ⟨k0, k1, k2, k3, k4, k5, k6, k7, k8, k9, k10, k11, k12⟩ := X1.cells13
 cases ha : arrB x ms ds
 . have HV : Hid (codeN x ms ds s zs = 1) := by unfold Hid codeN; rw [ha, Bool.false_and, if_pos rfl]
   clear ha
   have HB := hidden B1
   clear B1
   go_wp2
   go_ret
   exact ⟨ret_int HV.out.symm, HB.out⟩
 . have hln := arr_len ha
   have hrg : x.seq <= 60000 /\ 1 <= x.s /\ x.s <= 8 /\ geoB x.n x.s = true := by
    unfold arrB seqB6 at ha
    simp only [Bool.and_eq_true, inB_iff, decide_eq_true_eq] at ha
    obtain ⟨hgeo, _, _, _, _, htl, hsq2, hst, _⟩ := ha
    have := geoB_iff.1 hgeo
    exact ⟨hsq2.2, this.2.2.1, this.2.2.2, hgeo⟩
   obtain ⟨hn3, hn5, hnl⟩ := hln
   clear hnl
   obtain ⟨hq6, hs1, hs8, hgeo⟩ := hrg
   have wn : IntKind.i64.wrap (x.n - 1) = x.n - 1 := IntWalk.i64_in _ (by omega)
   have ws : IntKind.i64.wrap (x.s - 1) = x.s - 1 := IntWalk.i64_in _ (by omega)
   by_cases hzl : (zs.length : Int) = x.n - 1
   . have hne : ((zs.length : Int) != x.n - 1) = false := by simp [hzl]
     have HZL := hidden hzl
     have h12 : zs.length <= 12 := by omega
     have hsec : secB zs = allW zs := by unfold secB; rw [decide_eq_true h12, Bool.true_and]
     have HSEC := hidden hsec
     clear hzl hsec h12
     go_wp2_with fail
     refine (perStripe_any _ x.n x.s hn3 hn5).mono ?_
     rintro e w2 ⟨rfl, b2⟩
     have X2 := X1.below b2 X1.lt
     have q5 := p5.below b2
     have B2 := Below.andThen B1 b2
     clear k0 k1 k2 k3 k4 k5 k6 k7 k8 k9 k10 k11 k12 X1 p5 B1 b2
     obtain ⟨k0, k1, k2, k3, k4, k5, k6, k7, k8, k9, k10, k11, k12⟩ := X2.cells13
     go_wp2_with fail
     refine (implSecOk_any _ _ _ _ zs rfl (ints_rd q5).1 hz5).mono ?_
     rintro e w3 ⟨rfl, s3⟩
     rw [HSEC.out]
     have X3 := X2.same s3
     have B3 := Below.andSame B2 s3
     clear k0 k1 k2 k3 k4 k5 k6 k7 k8 k9 k10 k11 k12 X2 q5 B2 s3
     obtain ⟨k0, k1, k2, k3, k4, k5, k6, k7, k8, k9, k10, k11, k12⟩ := X3.cells13
     cases haw : allW zs
     . have HV : Hid (codeN x ms ds s zs = 1) := by unfold Hid codeN; rw [ha, haw, Bool.and_false, Bool.and_false, if_pos rfl]
       clear haw ha
       have HB := hidden B3
       clear B3
       go_wp2
       go_ret
       exact ⟨ret_int HV.out.symm, HB.out⟩
     . have HU : Hid (codeN x ms ds s zs = if x.down = true then 6 else if inB s 0 (x.s - 1) = false then 2 else if x.broken = true then 5 else if x.seq = 60000 ∨ 59990 <= x.gen then 7 else 0) := by unfold Hid codeN; rw [ha, haw, decide_eq_true HZL.out, if_neg (by simp)]
       clear haw ha
       cases hdn : x.down
       . rw [hdn] at k11
         have HU2 : Hid (codeN x ms ds s zs = if inB s 0 (x.s - 1) = false then 2 else if x.broken = true then 5 else if x.seq = 60000 ∨ 59990 <= x.gen then 7 else 0) := by unfold Hid; rw [HU.out, hdn, if_neg (by simp)]
         clear hdn HU
         go_wp2_with fail
         refine (hasStripe_any _ x.n x.s s).mono ?_
         rintro e w4 ⟨rfl, b4⟩
         have hsb : stripeB x.n x.s s = inB s 0 (x.s - 1) := by unfold stripeB; rw [hgeo, Bool.true_and]
         rw [hsb]
         have X4 := X3.below b4 X3.lt
         have B4 := Below.andThen B3 b4
         clear k0 k1 k2 k3 k4 k5 k6 k7 k8 k9 k10 k11 k12 X3 B3 b4 hsb
         obtain ⟨k0, k1, k2, k3, k4, k5, k6, k7, k8, k9, k10, k11, k12⟩ := X4.cells13
         cases hin : inB s 0 (x.s - 1)
         . have HV : Hid (codeN x ms ds s zs = 2) := by unfold Hid; rw [HU2.out, hin, if_pos rfl]
           clear hin
           have HB := hidden B4
           clear B4
           go_wp2
           go_ret
           exact ⟨ret_int HV.out.symm, HB.out⟩
         . have HU3 : Hid (codeN x ms ds s zs = if x.broken = true then 5 else if x.seq = 60000 ∨ 59990 <= x.gen then 7 else 0) := by unfold Hid; rw [HU2.out, hin, if_neg (by simp)]
           clear hin HU2
           cases hbr : x.broken
           . rw [hbr] at k12
             have HU4 : Hid (codeN x ms ds s zs = if x.seq = 60000 ∨ 59990 <= x.gen then 7 else 0) := by unfold Hid; rw [HU3.out, hbr, if_neg (by simp)]
             clear hbr HU3
             by_cases hq : x.seq = 60000
             . have HV : Hid (codeN x ms ds s zs = 7) := by unfold Hid; rw [HU4.out, if_pos (.inl hq)]
               have e1 : (x.seq == 60000) = true := by simpa using hq
               have e2 : decide (60000 <= x.seq) = true := by simp; omega
               have e3 : 60000 <= x.seq := by omega
               clear hq
               have HB := hidden B4
               clear B4
               go_wp2
               go_ret
               exact ⟨ret_int HV.out.symm, HB.out⟩
             . have e1 : (x.seq == 60000) = false := by simpa using hq
               have e2 : ¬ 60000 <= x.seq := by omega
               have e3 : decide (60000 <= x.seq) = false := by simp; omega
               by_cases hgn : 59990 <= x.gen
               . have HV : Hid (codeN x ms ds s zs = 7) := by unfold Hid; rw [HU4.out, if_pos (.inr hgn)]
                 clear hq
                 have HB := hidden B4
                 clear B4
                 go_wp2
                 go_ret
                 exact ⟨ret_int HV.out.symm, HB.out⟩
               . have HV : Hid (codeN x ms ds s zs = 0) := by unfold Hid; rw [HU4.out, if_neg (fun h => h.elim hq hgn)]
                 clear hq
                 have HB := hidden B4
                 clear B4
                 go_wp2
                 go_ret
                 exact ⟨ret_int HV.out.symm, HB.out⟩
           . rw [hbr] at k12
             have HV : Hid (codeN x ms ds s zs = 5) := by unfold Hid; rw [HU3.out, hbr, if_pos rfl]
             clear hbr
             have HB := hidden B4
             clear B4
             go_wp2
             go_ret
             exact ⟨ret_int HV.out.symm, HB.out⟩
       . rw [hdn] at k11
         have HV : Hid (codeN x ms ds s zs = 6) := by unfold Hid; rw [HU.out, hdn, if_pos rfl]
         clear hdn
         have HB := hidden B3
         clear B3
         go_wp2
         go_ret
         exact ⟨ret_int HV.out.symm, HB.out⟩
   . have hne : ((zs.length : Int) != x.n - 1) = true := by simpa using hzl
     have HV : Hid (codeN x ms ds s zs = 1) := by unfold Hid codeN; rw [ha, decide_eq_false hzl, Bool.false_and, Bool.and_false, if_pos rfl]
     clear hzl
     go_wp2_with fail
     refine (perStripe_any _ x.n x.s hn3 hn5).mono ?_
     rintro e w2 ⟨rfl, b2⟩
     have X2 := X1.below b2 X1.lt
     have q5 := p5.below b2
     have B2 := Below.andThen B1 b2
     clear k0 k1 k2 k3 k4 k5 k6 k7 k8 k9 k10 k11 k12 X1 p5 B1 b2
     obtain ⟨k0, k1, k2, k3, k4, k5, k6, k7, k8, k9, k10, k11, k12⟩ := X2.cells13
     clear ha
     have HB := hidden B2
     clear B2
     go_wp2
     go_ret
     exact ⟨ret_int HV.out.symm, HB.out⟩

theorem catch_gone (w : World) : CallsD Tryz.prog 113 #[] (.panicking goneC) w fun e u' w' => e = .returned (.tuple #[]) /\ u' = .panicking [{ v := goneV, recovered := true }] /\ w' = w := by
 have n1 : ∀ w : World, Sem.run Tryz.prog (binOp BinOp.neq 20 goneV .nilIface) w = .ok (.bool true) w := fun _ => by kernel_rfl
 have n2 : ∀ w : World, Sem.run Tryz.prog (binOp BinOp.neq 20 goneV goneV) w = .ok (.bool false) w := fun _ => by kernel_rfl
 refine callsD_of_wpS Tryz.func113 rfl fun c₀ cs hu => ?_
 apply wpS_seq
 apply wpS_region
 simp [wpOpsS, go_sem, recoverD, hu, Tryz.ntmps113, Exit.thenS]
 refine wpS_of_wp ?_
 have ht : ((Array.replicate 11 undef).setIfInBounds 1 goneV).setIfInBounds 0 goneV = #[goneV, goneV, undef, undef, undef, undef, undef, undef, undef, undef, undef] := rfl
 rw [ht]
 go_wp2
 exact ⟨rfl, _, rfl, .tuple #[], results_none rfl _ _ _, rfl, rfl, rfl⟩

theorem catch_idle (w : World) : CallsD Tryz.prog 113 #[] .returning w fun e u' w' => e = .returned (.tuple #[]) /\ u' = .returning /\ w' = w := by
 have n1 : ∀ w : World, Sem.run Tryz.prog (binOp BinOp.neq 20 .nilIface .nilIface) w = .ok (.bool false) w := fun _ => by kernel_rfl
 refine callsD_of_wpS Tryz.func113 rfl fun c₀ cs hu => ?_
 apply wpS_seq
 apply wpS_region
 simp [wpOpsS, go_sem, recoverD, hu, Tryz.ntmps113, Exit.thenS]
 refine wpS_of_wp ?_
 have ht : ((Array.replicate 11 undef).setIfInBounds 1 Value.nilIface).setIfInBounds 0 Value.nilIface = #[Value.nilIface, Value.nilIface, undef, undef, undef, undef, undef, undef, undef, undef, undef] := rfl
 rw [ht]
 go_wp2
 exact ⟨rfl, .returning, by cases c₀; simp_all, .tuple #[], results_none rfl _ _ _, rfl, rfl, rfl⟩

theorem arr_here {w w4 : World} {B : Nat} {y : ArrN} {ns : List MemD} {ds : List (Int × List Int)} {bm bd : Option Addr} {cm cd : Nat} {fm fd : List Nat} {e : Ending} (hb : Below w.heap.size w w4) (he : e = .returned (.agg (arrC y (.slice bm ns.length cm) (.slice bd ds.length cd)))) (hm : (tMemS 159 109).Mine w4 [.slice bm ns.length cm] ns fm) (hd : (tWrS 86).Mine w4 [.slice bd ds.length cd] ds fd) (hr : ∀ b ∈ fm, b ∉ fd) (rm : ∀ b ∈ fm, B <= b) (rd : ∀ b ∈ fd, B <= b) (h1 : w.heap.size <= B) : ArrOut w w4 e (y, ns) ds :=
 ⟨bm, bd, cm, cd, he, ⟨fm, fd, hm, hd, hr, fun b hb => ⟨Nat.le_trans h1 (rm b hb), hm.lt b hb⟩, fun b hb => ⟨Nat.le_trans h1 (rd b hb), hd.lt b hb⟩⟩, hb⟩

theorem worked_any (w : World) (E F G : TypeId) (x : ArrN) (am ad : Option Addr) (nm cm nd cd : Nat) (ms : List MemD) (ds : List (Int × List Int)) (h0 : (tMemS E F).Rd w [.slice am nm cm] ms) (h1 : (tWrS G).Rd w [.slice ad nd cd] ds) (hw : wtArr ms ds <= 2097152)
 (Fw : FuncId) (cap : Array Value) (q : ArrN × List MemD) (hen : ∀ B : Nat, Enters Fw (#[.pointer (some ⟨B, 0, none⟩)] ++ cap))
 (hwork : ∀ (w' : World) (B : Nat) (fm fd : List Nat), Below w.heap.size w w' -> w.heap.size <= B -> ArrAt w' B x ms ds fm fd -> (∀ b ∈ fm, w.heap.size <= b) -> (∀ b ∈ fd, w.heap.size <= b) -> Calls Tryz.prog Fw (#[.pointer (some ⟨B, 0, none⟩)] ++ cap) w' (Did w' B fm ds fd q)) :
 Calls Tryz.prog 53 #[.agg #[.int .i64 x.id, .int .i64 x.n, .int .i64 x.s, .slice am nm cm, .int .i64 x.lost, .int .i64 x.built, .int .i64 x.seq, .int .i64 x.tail, .int .i64 x.gen, .slice ad nd cd, .int .i64 x.fuse, .bool x.down, .bool x.broken], .func (Fn.func Fw) #[] cap] w fun e w' => ArrOut w w' e q ds := by
 obtain ⟨rfl, _⟩ := row_length h0
 obtain ⟨rfl, _⟩ := row_length h1
 have hA := (new_below w (.cells #[.int .i64 x.id, .int .i64 x.n, .int .i64 x.s, .slice am ms.length cm, .int .i64 x.lost, .int .i64 x.built, .int .i64 x.seq, .int .i64 x.tail, .int .i64 x.gen, .slice ad ds.length cd, .int .i64 x.fuse, .bool x.down, .bool x.broken] 29)).alloc (by simp) (.cells #[.int .i64 0, .int .i64 0, .int .i64 0, .slice none 0 0, .int .i64 0, .int .i64 0, .int .i64 0, .int .i64 0, .int .i64 0, .slice none 0 0, .int .i64 0, .bool false, .bool false] 29)
 have X0 : Box ((w.alloc (.cells #[.int .i64 x.id, .int .i64 x.n, .int .i64 x.s, .slice am ms.length cm, .int .i64 x.lost, .int .i64 x.built, .int .i64 x.seq, .int .i64 x.tail, .int .i64 x.gen, .slice ad ds.length cd, .int .i64 x.fuse, .bool x.down, .bool x.broken] 29)).alloc (.cells #[.int .i64 0, .int .i64 0, .int .i64 0, .slice none 0 0, .int .i64 0, .int .i64 0, .int .i64 0, .int .i64 0, .int .i64 0, .slice none 0 0, .int .i64 0, .bool false, .bool false] 29)) w.heap.size 29 #[.int .i64 x.id, .int .i64 x.n, .int .i64 x.s, .slice am ms.length cm, .int .i64 x.lost, .int .i64 x.built, .int .i64 x.seq, .int .i64 x.tail, .int .i64 x.gen, .slice ad ds.length cd, .int .i64 x.fuse, .bool x.down, .bool x.broken] := (Box.new w _ _).alloc _
 have R0 := Box.new (w.alloc (.cells #[.int .i64 x.id, .int .i64 x.n, .int .i64 x.s, .slice am ms.length cm, .int .i64 x.lost, .int .i64 x.built, .int .i64 x.seq, .int .i64 x.tail, .int .i64 x.gen, .slice ad ds.length cd, .int .i64 x.fuse, .bool x.down, .bool x.broken] 29)) 29 #[.int .i64 0, .int .i64 0, .int .i64 0, .slice none 0 0, .int .i64 0, .int .i64 0, .int .i64 0, .int .i64 0, .int .i64 0, .slice none 0 0, .int .i64 0, .bool false, .bool false]
 rw [World.size_alloc] at R0
 have zX := X0.lt
 have zR := R0.lt
 have r0 := h0.below hA
 have r1 := h1.below hA
 have hzW : ((w.alloc (.cells #[.int .i64 x.id, .int .i64 x.n, .int .i64 x.s, .slice am ms.length cm, .int .i64 x.lost, .int .i64 x.built, .int .i64 x.seq, .int .i64 x.tail, .int .i64 x.gen, .slice ad ds.length cd, .int .i64 x.fuse, .bool x.down, .bool x.broken] 29)).alloc (.cells #[.int .i64 0, .int .i64 0, .int .i64 0, .slice none 0 0, .int .i64 0, .int .i64 0, .int .i64 0, .int .i64 0, .int .i64 0, .slice none 0 0, .int .i64 0, .bool false, .bool false] 29)).heap.size = w.heap.size + 1 + 1 := by simp
 obtain ⟨k0, k1, k2, k3, k4, k5, k6, k7, k8, k9, k10, k11, k12⟩ := X0.cells13
 have HW := hidden hwork
 clear hwork
 have hmf : ∀ (fn : Fn) (first cap : Array Value) (w : World), (Instr.makeFunc fn first cap).run Tryz.prog w = .ok (.func fn first cap) w := fun _ _ _ _ => rfl
 go_enter_defers Tryz.func53, Tryz.ntmps53
 go_wp2_with fail
 generalize (w.alloc (.cells #[.int .i64 x.id, .int .i64 x.n, .int .i64 x.s, .slice am ms.length cm, .int .i64 x.lost, .int .i64 x.built, .int .i64 x.seq, .int .i64 x.tail, .int .i64 x.gen, .slice ad ds.length cd, .int .i64 x.fuse, .bool x.down, .bool x.broken] 29)).alloc (.cells #[.int .i64 0, .int .i64 0, .int .i64 0, .slice none 0 0, .int .i64 0, .int .i64 0, .int .i64 0, .int .i64 0, .int .i64 0, .slice none 0 0, .int .i64 0, .bool false, .bool false] 29) = W at hA X0 R0 zX zR r0 r1 hzW k0 k1 k2 k3 k4 k5 k6 k7 k8 k9 k10 k11 k12 ⊢
 obtain ⟨BO, hBO⟩ : ∃ BO, w.heap.size + 1 = BO := ⟨_, rfl⟩
 rw [hBO] at R0 zR hzW ⊢
 have q1 : w.heap.size + 1 <= BO /\ BO <= w.heap.size + 1 := by omega
 clear hBO
 refine (copyArr_any _ E F G x _ _ _ _ _ _ ms ds r0 r1 hw).mono ?_
 rintro e w1 ⟨bm, cm1, bd, cd1, m, rfl, om, od, zm, zm2, b1⟩
 have R1 := R0.below b1 zR
 have hbt := puts_but BO [(0, .int .i64 x.id), (1, .int .i64 x.n), (2, .int .i64 x.s), (3, .slice bm ms.length cm1), (4, .int .i64 x.lost), (5, .int .i64 x.built), (6, .int .i64 x.seq), (7, .int .i64 x.tail), (8, .int .i64 x.gen), (9, .slice bd ds.length cd1), (10, .int .i64 x.fuse), (11, .bool x.down), (12, .bool x.broken)] w1
 have Y : Box (puts w1 BO [(0, .int .i64 x.id), (1, .int .i64 x.n), (2, .int .i64 x.s), (3, .slice bm ms.length cm1), (4, .int .i64 x.lost), (5, .int .i64 x.built), (6, .int .i64 x.seq), (7, .int .i64 x.tail), (8, .int .i64 x.gen), (9, .slice bd ds.length cd1), (10, .int .i64 x.fuse), (11, .bool x.down), (12, .bool x.broken)]) BO 29 (arrC x (.slice bm ms.length cm1) (.slice bd ds.length cd1)) := puts_arr R1 _ _ _ _ _ _ _ _ _ _ _ _ _
 obtain ⟨fm, mm, rm⟩ := om.mine
 obtain ⟨fd, md, rd⟩ := od.mine
 have AA : ArrAt (puts w1 BO [(0, .int .i64 x.id), (1, .int .i64 x.n), (2, .int .i64 x.s), (3, .slice bm ms.length cm1), (4, .int .i64 x.lost), (5, .int .i64 x.built), (6, .int .i64 x.seq), (7, .int .i64 x.tail), (8, .int .i64 x.gen), (9, .slice bd ds.length cd1), (10, .int .i64 x.fuse), (11, .bool x.down), (12, .bool x.broken)]) BO x ms ds fm fd := ⟨bm, bd, cm1, cd1, Y, mm.but hbt (fun b hb => by have := rm b hb; omega), md.but hbt (fun b hb => by have := rd b hb; omega), fun b hb hb' => by have h1 := rm b hb; have h2 := rd b hb'; omega, fun hm => by have := rm _ hm; omega, fun hm => by have := rd _ hm; omega⟩
 have B1 := Below.andBut (Below.andThen hA b1) hbt (by omega)
 have rm2 : ∀ b ∈ fm, BO < b := fun b hb => by have := rm b hb; omega
 have rd2 : ∀ b ∈ fd, BO < b := fun b hb => by have := rd b hb; omega
 have WK := hidden (HW.out _ BO fm fd B1 (by omega) AA (fun b hb => by have := rm2 b hb; omega) (fun b hb => by have := rd2 b hb; omega))
 have hcf : ∀ w : World, Sem.run Tryz.prog (callFunc Fw (#[.pointer (some ⟨BO, 0, none⟩)] ++ cap)) w = .ok (.enter Fw (#[.pointer (some ⟨BO, 0, none⟩)] ++ cap)) w := hen BO
 have BH := hidden B1
 have zW := AA.lt
 simp only [puts] at WK BH zW
 obtain ⟨t0, t1, t2, t3, t4, t5, t6, t7, t8, t9, t10, t11, t12⟩ := R1.cells13
 have fz := R1.frozen
 clear X0 R0 r0 r1 om od b1 hbt Y mm md AA B1 rm rd hA HW k0 k1 k2 k3 k4 k5 k6 k7 k8 k9 k10 k11 k12
 go_wp2_with fail
 refine WK.out.mono ?_
 rintro e w4 ⟨he, fm4, hA4, hMv4⟩
 clear WK hcf fz t0 t1 t2 t3 t4 t5 t6 t7 t8 t9 t10 t11 t12
 have rm4 : ∀ b ∈ fm4, BO < b := fun b hb => by rcases hMv4.2 b hb with h | h; exact rm2 b h; omega
 have B4 := BH.out.trans (hMv4.belowN (N := w.heap.size) (by omega) (fun b hb => by have := rm2 b hb; omega) (by have := BH.out.size; omega))
 obtain ⟨y, ns⟩ := q
 dsimp only at hA4 he
 obtain ⟨vm, vd, cvm, cvd, Yf, mf, df, hrf, r1f, r2f⟩ := hA4
 clear hMv4 BH zW
 have Y0 := Yf
 unfold arrC at Y0
 obtain ⟨s0, s1, s2, s3, s4, s5, s6, s7, s8, s9, s10, s11, s12⟩ := Y0.cells13
 have fz := Y0.frozen
 unfold EndOf at he
 cases hdn : y.down
 . rw [if_neg (by simp [hdn])] at he
   subst he
   clear hdn
   have HO := hidden (arr_out (y := y) (e := .returned (.agg (arrC y _ _))) B4 Yf rfl mf df hrf (lo := BO + 1) (fun b hb => rm4 b hb) (fun b hb => rd2 b hb) (by omega) (by omega))
   unfold arrC at HO
   simp only [puts] at HO
   clear B4 Yf Y0 mf df
   go_wp2
   refine leaves_cons (f := 113) (args := #[]) (by simp) (by simp [go_sem]) ?_
   refine (catch_idle _).mono ?_
   rintro e u' w'' ⟨rfl, rfl, rfl⟩
   exact ⟨.agg #[.int .i64 y.id, .int .i64 y.n, .int .i64 y.s, .slice vm ns.length cvm, .int .i64 y.lost, .int .i64 y.built, .int .i64 y.seq, .int .i64 y.tail, .int .i64 y.gen, .slice vd ds.length cvd, .int .i64 y.fuse, .bool y.down, .bool y.broken], by simp [results, Tryz.results53, go_sem, s0, s1, s2, s3, s4, s5, s6, s7, s8, s9, s10, s11, s12], HO.out⟩
 . rw [if_pos hdn] at he
   subst he
   clear hdn
   have HO := hidden (arr_here (y := y) (e := .returned (.agg (arrC y _ _))) B4 rfl mf df hrf (B := BO) (fun b hb => Nat.le_of_lt (rm4 b hb)) (fun b hb => Nat.le_of_lt (rd2 b hb)) (by omega))
   unfold arrC at HO
   clear B4 Yf Y0 mf df
   go_wp2
   refine leaves_cons (f := 113) (args := #[]) (by simp) (by simp [go_sem]) ?_
   refine (catch_gone _).mono ?_
   rintro e u' w'' ⟨rfl, rfl, rfl⟩
   exact ⟨.agg #[.int .i64 y.id, .int .i64 y.n, .int .i64 y.s, .slice vm ns.length cvm, .int .i64 y.lost, .int .i64 y.built, .int .i64 y.seq, .int .i64 y.tail, .int .i64 y.gen, .slice vd ds.length cvd, .int .i64 y.fuse, .bool y.down, .bool y.broken], by simp [results, Tryz.results53, go_sem, s0, s1, s2, s3, s4, s5, s6, s7, s8, s9, s10, s11, s12], HO.out⟩

theorem implWriteStripe_any (w : World) (E F G : TypeId) (x : ArrN) (am ad : Option Addr) (nm cm nd cd : Nat) (ms : List MemD) (ds : List (Int × List Int)) (h0 : (tMemS E F).Rd w [.slice am nm cm] ms) (h1 : (tWrS G).Rd w [.slice ad nd cd] ds) (hw0 : wtArr ms ds <= 2000000) (s : Int) (ar : Option Addr) (cr : Nat) (zs : List Int) (fr : List Nat) (h5 : tIntS.Mine w [.slice ar zs.length cr] zs fr) (hz5 : zs.length <= 2097152) :
 Calls Tryz.prog 10 #[.agg #[.int .i64 x.id, .int .i64 x.n, .int .i64 x.s, .slice am nm cm, .int .i64 x.lost, .int .i64 x.built, .int .i64 x.seq, .int .i64 x.tail, .int .i64 x.gen, .slice ad nd cd, .int .i64 x.fuse, .bool x.down, .bool x.broken], .int .i64 s, .slice ar zs.length cr] w fun e w' => ArrOutC w w' e (stripeO x ms ds s zs) (stripeC x ms ds s zs) ds := by
 obtain ⟨rfl, _⟩ := row_length h0
 obtain ⟨rfl, _⟩ := row_length h1
 have hw : wtArr ms ds <= 2097152 := by omega
 have hl5 := h5.lt
 have hmf : ∀ (fn : Fn) (first cap : Array Value) (w : World), (Instr.makeFunc fn first cap).run Tryz.prog w = .ok (.func fn first cap) w := fun _ _ _ _ => rfl
 have zz : ∀ v : World, ∀ ob : Obj, (v.alloc ob).heap.size = v.heap.size + 1 := fun v ob => by simp
 have hA : Below w.heap.size w ((((w.alloc (.cells #[.int .i64 x.id, .int .i64 x.n, .int .i64 x.s, .slice am ms.length cm, .int .i64 x.lost, .int .i64 x.built, .int .i64 x.seq, .int .i64 x.tail, .int .i64 x.gen, .slice ad ds.length cd, .int .i64 x.fuse, .bool x.down, .bool x.broken] 29)).alloc (.cells #[.int .i64 s] 3)).alloc (.cells #[.slice ar zs.length cr] 30)).alloc (.cells #[.int .i64 0, .int .i64 0, .int .i64 0, .slice none 0 0, .int .i64 0, .int .i64 0, .int .i64 0, .int .i64 0, .int .i64 0, .slice none 0 0, .int .i64 0, .bool false, .bool false] 29)) := ((((Below.refl _ _).alloc (Nat.le_refl _) _).alloc (by simp) _).alloc (by simp; omega) _).alloc (by simp; omega) _
 have X0 : Box ((((w.alloc (.cells #[.int .i64 x.id, .int .i64 x.n, .int .i64 x.s, .slice am ms.length cm, .int .i64 x.lost, .int .i64 x.built, .int .i64 x.seq, .int .i64 x.tail, .int .i64 x.gen, .slice ad ds.length cd, .int .i64 x.fuse, .bool x.down, .bool x.broken] 29)).alloc (.cells #[.int .i64 s] 3)).alloc (.cells #[.slice ar zs.length cr] 30)).alloc (.cells #[.int .i64 0, .int .i64 0, .int .i64 0, .slice none 0 0, .int .i64 0, .int .i64 0, .int .i64 0, .int .i64 0, .int .i64 0, .slice none 0 0, .int .i64 0, .bool false, .bool false] 29)) w.heap.size 29 #[.int .i64 x.id, .int .i64 x.n, .int .i64 x.s, .slice am ms.length cm, .int .i64 x.lost, .int .i64 x.built, .int .i64 x.seq, .int .i64 x.tail, .int .i64 x.gen, .slice ad ds.length cd, .int .i64 x.fuse, .bool x.down, .bool x.broken] := (((Box.new w _ _).alloc _).alloc _).alloc _
 have S0 := Box.new (w.alloc (.cells #[.int .i64 x.id, .int .i64 x.n, .int .i64 x.s, .slice am ms.length cm, .int .i64 x.lost, .int .i64 x.built, .int .i64 x.seq, .int .i64 x.tail, .int .i64 x.gen, .slice ad ds.length cd, .int .i64 x.fuse, .bool x.down, .bool x.broken] 29)) 3 #[.int .i64 s]
 rw [zz] at S0
 replace S0 := (S0.alloc (.cells #[.slice ar zs.length cr] 30)).alloc (.cells #[.int .i64 0, .int .i64 0, .int .i64 0, .slice none 0 0, .int .i64 0, .int .i64 0, .int .i64 0, .int .i64 0, .int .i64 0, .slice none 0 0, .int .i64 0, .bool false, .bool false] 29)
 have D0 := Box.new ((w.alloc (.cells #[.int .i64 x.id, .int .i64 x.n, .int .i64 x.s, .slice am ms.length cm, .int .i64 x.lost, .int .i64 x.built, .int .i64 x.seq, .int .i64 x.tail, .int .i64 x.gen, .slice ad ds.length cd, .int .i64 x.fuse, .bool x.down, .bool x.broken] 29)).alloc (.cells #[.int .i64 s] 3)) 30 #[.slice ar zs.length cr]
 rw [zz, zz] at D0
 replace D0 := D0.alloc (.cells #[.int .i64 0, .int .i64 0, .int .i64 0, .slice none 0 0, .int .i64 0, .int .i64 0, .int .i64 0, .int .i64 0, .int .i64 0, .slice none 0 0, .int .i64 0, .bool false, .bool false] 29)
 have R0 := Box.new (((w.alloc (.cells #[.int .i64 x.id, .int .i64 x.n, .int .i64 x.s, .slice am ms.length cm, .int .i64 x.lost, .int .i64 x.built, .int .i64 x.seq, .int .i64 x.tail, .int .i64 x.gen, .slice ad ds.length cd, .int .i64 x.fuse, .bool x.down, .bool x.broken] 29)).alloc (.cells #[.int .i64 s] 3)).alloc (.cells #[.slice ar zs.length cr] 30)) 29 #[.int .i64 0, .int .i64 0, .int .i64 0, .slice none 0 0, .int .i64 0, .int .i64 0, .int .i64 0, .int .i64 0, .int .i64 0, .slice none 0 0, .int .i64 0, .bool false, .bool false]
 rw [zz, zz, zz] at R0
 have zX := X0.lt
 have zR := R0.lt
 have zS := S0.lt
 have zD := D0.lt
 have r0 := h0.below hA
 have r1 := h1.below hA
 have r5 := h5.below hA
 have hzW : ((((w.alloc (.cells #[.int .i64 x.id, .int .i64 x.n, .int .i64 x.s, .slice am ms.length cm, .int .i64 x.lost, .int .i64 x.built, .int .i64 x.seq, .int .i64 x.tail, .int .i64 x.gen, .slice ad ds.length cd, .int .i64 x.fuse, .bool x.down, .bool x.broken] 29)).alloc (.cells #[.int .i64 s] 3)).alloc (.cells #[.slice ar zs.length cr] 30)).alloc (.cells #[.int .i64 0, .int .i64 0, .int .i64 0, .slice none 0 0, .int .i64 0, .int .i64 0, .int .i64 0, .int .i64 0, .int .i64 0, .slice none 0 0, .int .i64 0, .bool false, .bool false] 29)).heap.size = w.heap.size + 1 + 1 + 1 + 1 := by simp
 obtain ⟨k0, k1, k2, k3, k4, k5, k6, k7, k8, k9, k10, k11, k12⟩ := X0.cells13
 have c1 := S0.cell 0
 have c2 := D0.cell 0
 clear zz
 go_enter Tryz.func10, Tryz.ntmps10
 go_wp2_with fail
 generalize (((w.alloc (.cells #[.int .i64 x.id, .int .i64 x.n, .int .i64 x.s, .slice am ms.length cm, .int .i64 x.lost, .int .i64 x.built, .int .i64 x.seq, .int .i64 x.tail, .int .i64 x.gen, .slice ad ds.length cd, .int .i64 x.fuse, .bool x.down, .bool x.broken] 29)).alloc (.cells #[.int .i64 s] 3)).alloc (.cells #[.slice ar zs.length cr] 30)).alloc (.cells #[.int .i64 0, .int .i64 0, .int .i64 0, .slice none 0 0, .int .i64 0, .int .i64 0, .int .i64 0, .int .i64 0, .int .i64 0, .slice none 0 0, .int .i64 0, .bool false, .bool false] 29) = W at hA X0 R0 S0 D0 zX zR zS zD r0 r1 r5 hzW k0 k1 k2 k3 k4 k5 k6 k7 k8 k9 k10 k11 k12 c1 c2 ⊢
 obtain ⟨BR, hBR⟩ : ∃ q, w.heap.size + 1 + 1 + 1 = q := ⟨_, rfl⟩
 rw [hBR] at R0 zR hzW ⊢
 have qBR : w.heap.size + 1 + 1 + 1 <= BR /\ BR <= w.heap.size + 1 + 1 + 1 := by omega
 clear hBR
 obtain ⟨BD, hBD⟩ : ∃ q, w.heap.size + 1 + 1 = q := ⟨_, rfl⟩
 rw [hBD] at D0 zD c2 ⊢
 have qBD : w.heap.size + 1 + 1 <= BD /\ BD <= w.heap.size + 1 + 1 := by omega
 clear hBD
 obtain ⟨BS, hBS⟩ : ∃ q, w.heap.size + 1 = q := ⟨_, rfl⟩
 rw [hBS] at S0 zS c1 ⊢
 have qBS : w.heap.size + 1 <= BS /\ BS <= w.heap.size + 1 := by omega
 clear hBS
 refine (writeCode_any _ E F G x _ _ _ _ _ _ ms ds r0 r1 hw s ar cr zs r5.rd hz5).mono ?_
 rintro e w1 ⟨rfl, b1⟩
 have X1 := X0.below b1 zX
 have R1 := R0.below b1 zR
 have S1 := S0.below b1 zS
 have D1 := D0.below b1 zD
 have p0 := r0.below b1
 have p1 := r1.below b1
 have p5 := r5.below b1
 have B1 := Below.andThen hA b1
 have z1 := b1.size
 clear k0 k1 k2 k3 k4 k5 k6 k7 k8 k9 k10 k11 k12 X0 R0 S0 D0 r0 r1 r5 b1 hA c1 c2
 obtain ⟨k0, k1, k2, k3, k4, k5, k6, k7, k8, k9, k10, k11, k12⟩ := X1.cells13
 have c1 := S1.cell 0
 have c2 := D1.cell 0
 by_cases hc : codeN x ms ds s zs = 0
 . obtain ⟨ha, hz, haw, hdn, hin, hbr, hsq, hgn⟩ := code_good hc
   have HV0 : Hid (stripeO x ms ds s zs = writeA (x, ms) s zs) := by unfold Hid stripeO; rw [if_pos hc]
   have HVC0 : Hid (stripeC x ms ds s zs = if (writeA (x, ms) s zs).1.down = true then 6 else 0) := by unfold Hid stripeC; rw [if_pos hc]
   have WK : Hid (∀ (w' : World) (B : Nat) (fm fd : List Nat), Below w1.heap.size w1 w' -> w1.heap.size <= B -> ArrAt w' B x ms ds fm fd -> (∀ b ∈ fm, w1.heap.size <= b) -> (∀ b ∈ fd, w1.heap.size <= b) -> Calls Tryz.prog 54 (#[.pointer (some ⟨B, 0, none⟩)] ++ #[.pointer (some ⟨BS, 0, none⟩), .pointer (some ⟨BD, 0, none⟩)]) w' (Did w' B fm ds fd (writeA (x, ms) s zs))) := fun w' B fm fd hb hB hA hm _ => stripe1_any w' B x ms ds fm fd hA s ar cr zs fr BS BD (S1.below hb S1.lt) (D1.below hb D1.lt) ha hdn (by omega) hsq hin (p5.below hb) (fun b hb' => ⟨fun e => by have := hl5 b hb'; omega, fun hm' => by have h1 := hl5 b hb'; have h2 := hm b hm'; omega⟩) hz hw0
   have e0 : (codeN x ms ds s zs != 0) = false := by simp [hc]
   clear ha hz haw hdn hin hbr hsq hgn hc
   generalize codeN x ms ds s zs = cd0 at e0 ⊢
   go_wp2_with fail
   refine (worked_any _ E F G x _ _ _ _ _ _ ms ds p0 p1 hw 54 #[.pointer (some ⟨BS, 0, none⟩), .pointer (some ⟨BD, 0, none⟩)] (writeA (x, ms) s zs) (fun B => enters_of Tryz.func54 (by kernel_rfl) (by kernel_rfl) _) WK.out).mono ?_
   rintro e w2 hq
   generalize writeA (x, ms) s zs = st at hq HV0 HVC0
   obtain ⟨y, ns⟩ := st
   dsimp only at HVC0
   obtain ⟨vm, vd, cvm, cvd, rfl, hin, b2⟩ := hq
   dsimp only at hin ⊢
   obtain ⟨fm, fd, mm0, md0, hr2, rm0, rd0⟩ := hin
   have z2 := b2.size
   unfold arrC
   have R1b := R1.below b2 (by omega)
   have B1b := Below.andThen B1 b2
   have rm : ∀ b ∈ fm, w1.heap.size <= b := fun b hb => (rm0 b hb).1
   have rd : ∀ b ∈ fd, w1.heap.size <= b := fun b hb => (rd0 b hb).1
   clear X1 R1 S1 D1 B1 p0 p1 p5 b2 WK rm0 rd0 e0 c1 c2 k0 k1 k2 k3 k4 k5 k6 k7 k8 k9 k10 k11 k12
   cases hyd : y.down
   . have HX : Hid (y = {y with down := false}) := by unfold Hid; rw [← hyd]
     have HV : Hid (stripeO x ms ds s zs = ({y with down := false}, ns)) := by unfold Hid; rw [← HX.out]; exact HV0.out
     have HVC : Hid (stripeC x ms ds s zs = 0) := by unfold Hid; rw [HVC0.out, hyd]; rfl
     clear HV0 HVC0 HX hyd
     have R2 := R1b.alloc (.cells #[.int .i64 y.id, .int .i64 y.n, .int .i64 y.s, .slice vm ns.length cvm, .int .i64 y.lost, .int .i64 y.built, .int .i64 y.seq, .int .i64 y.tail, .int .i64 y.gen, .slice vd ds.length cvd, .int .i64 y.fuse, .bool false, .bool y.broken] 29)
     have B2 := Below.andThen B1b (new_below w2 (.cells #[.int .i64 y.id, .int .i64 y.n, .int .i64 y.s, .slice vm ns.length cvm, .int .i64 y.lost, .int .i64 y.built, .int .i64 y.seq, .int .i64 y.tail, .int .i64 y.gen, .slice vd ds.length cvd, .int .i64 y.fuse, .bool false, .bool y.broken] 29))
     have O2 := Box.new w2 29 #[.int .i64 y.id, .int .i64 y.n, .int .i64 y.s, .slice vm ns.length cvm, .int .i64 y.lost, .int .i64 y.built, .int .i64 y.seq, .int .i64 y.tail, .int .i64 y.gen, .slice vd ds.length cvd, .int .i64 y.fuse, .bool false, .bool y.broken]
     have mm := mm0.alloc (.cells #[.int .i64 y.id, .int .i64 y.n, .int .i64 y.s, .slice vm ns.length cvm, .int .i64 y.lost, .int .i64 y.built, .int .i64 y.seq, .int .i64 y.tail, .int .i64 y.gen, .slice vd ds.length cvd, .int .i64 y.fuse, .bool false, .bool y.broken] 29)
     have md := md0.alloc (.cells #[.int .i64 y.id, .int .i64 y.n, .int .i64 y.s, .slice vm ns.length cvm, .int .i64 y.lost, .int .i64 y.built, .int .i64 y.seq, .int .i64 y.tail, .int .i64 y.gen, .slice vd ds.length cvd, .int .i64 y.fuse, .bool false, .bool y.broken] 29)
     obtain ⟨t0, t1, t2, t3, t4, t5, t6, t7, t8, t9, t10, t11, t12⟩ := O2.cells13
     clear O2 mm0 md0 R1b B1b
     obtain ⟨s0, s1, s2, s3, s4, s5, s6, s7, s8, s9, s10, s11, s12⟩ := R2.cells13
     have fz := R2.frozen
     have HO := hidden (arr_outC (y := {y with down := false}) (ns := ns) (code := 0) (e := .returned (.tuple #[.agg (arrC {y with down := false} _ _), .int .i64 0])) (lo := BR + 1) B2 R2 rfl mm md hr2 (fun b hb => by have := rm b hb; omega) (fun b hb => by have := rd b hb; omega) (by omega) (by omega))
     unfold arrC at HO
     simp only [puts] at HO
     clear B2 R2 mm md
     go_wp2
     refine bodyPost_ret (v := .tuple #[.agg #[.int .i64 y.id, .int .i64 y.n, .int .i64 y.s, .slice vm ns.length cvm, .int .i64 y.lost, .int .i64 y.built, .int .i64 y.seq, .int .i64 y.tail, .int .i64 y.gen, .slice vd ds.length cvd, .int .i64 y.fuse, .bool false, .bool y.broken], .int .i64 0]) (by simp [results, Tryz.results10, go_sem, s0, s1, s2, s3, s4, s5, s6, s7, s8, s9, s10, s11, s12]) rfl ?_
     rw [HV.out, HVC.out]; exact HO.out
   . have HX : Hid (y = {y with down := true}) := by unfold Hid; rw [← hyd]
     have HV : Hid (stripeO x ms ds s zs = ({y with down := true}, ns)) := by unfold Hid; rw [← HX.out]; exact HV0.out
     have HVC : Hid (stripeC x ms ds s zs = 6) := by unfold Hid; rw [HVC0.out, hyd]; rfl
     clear HV0 HVC0 HX hyd
     have R2 := R1b.alloc (.cells #[.int .i64 y.id, .int .i64 y.n, .int .i64 y.s, .slice vm ns.length cvm, .int .i64 y.lost, .int .i64 y.built, .int .i64 y.seq, .int .i64 y.tail, .int .i64 y.gen, .slice vd ds.length cvd, .int .i64 y.fuse, .bool true, .bool y.broken] 29)
     have B2 := Below.andThen B1b (new_below w2 (.cells #[.int .i64 y.id, .int .i64 y.n, .int .i64 y.s, .slice vm ns.length cvm, .int .i64 y.lost, .int .i64 y.built, .int .i64 y.seq, .int .i64 y.tail, .int .i64 y.gen, .slice vd ds.length cvd, .int .i64 y.fuse, .bool true, .bool y.broken] 29))
     have O2 := Box.new w2 29 #[.int .i64 y.id, .int .i64 y.n, .int .i64 y.s, .slice vm ns.length cvm, .int .i64 y.lost, .int .i64 y.built, .int .i64 y.seq, .int .i64 y.tail, .int .i64 y.gen, .slice vd ds.length cvd, .int .i64 y.fuse, .bool true, .bool y.broken]
     have mm := mm0.alloc (.cells #[.int .i64 y.id, .int .i64 y.n, .int .i64 y.s, .slice vm ns.length cvm, .int .i64 y.lost, .int .i64 y.built, .int .i64 y.seq, .int .i64 y.tail, .int .i64 y.gen, .slice vd ds.length cvd, .int .i64 y.fuse, .bool true, .bool y.broken] 29)
     have md := md0.alloc (.cells #[.int .i64 y.id, .int .i64 y.n, .int .i64 y.s, .slice vm ns.length cvm, .int .i64 y.lost, .int .i64 y.built, .int .i64 y.seq, .int .i64 y.tail, .int .i64 y.gen, .slice vd ds.length cvd, .int .i64 y.fuse, .bool true, .bool y.broken] 29)
     obtain ⟨t0, t1, t2, t3, t4, t5, t6, t7, t8, t9, t10, t11, t12⟩ := O2.cells13
     clear O2 mm0 md0 R1b B1b
     obtain ⟨s0, s1, s2, s3, s4, s5, s6, s7, s8, s9, s10, s11, s12⟩ := R2.cells13
     have fz := R2.frozen
     have HO := hidden (arr_outC (y := {y with down := true}) (ns := ns) (code := 6) (e := .returned (.tuple #[.agg (arrC {y with down := true} _ _), .int .i64 6])) (lo := BR + 1) B2 R2 rfl mm md hr2 (fun b hb => by have := rm b hb; omega) (fun b hb => by have := rd b hb; omega) (by omega) (by omega))
     unfold arrC at HO
     simp only [puts] at HO
     clear B2 R2 mm md
     go_wp2
     refine bodyPost_ret (v := .tuple #[.agg #[.int .i64 y.id, .int .i64 y.n, .int .i64 y.s, .slice vm ns.length cvm, .int .i64 y.lost, .int .i64 y.built, .int .i64 y.seq, .int .i64 y.tail, .int .i64 y.gen, .slice vd ds.length cvd, .int .i64 y.fuse, .bool true, .bool y.broken], .int .i64 6]) (by simp [results, Tryz.results10, go_sem, s0, s1, s2, s3, s4, s5, s6, s7, s8, s9, s10, s11, s12]) rfl ?_
     rw [HV.out, HVC.out]; exact HO.out
 . have HV : Hid (stripeO x ms ds s zs = (x, ms)) := by unfold Hid stripeO; rw [if_neg hc]
   have HVC : Hid (stripeC x ms ds s zs = codeN x ms ds s zs) := by unfold Hid stripeC; rw [if_neg hc]
   have e0 : (codeN x ms ds s zs != 0) = true := by simpa using hc
   clear hc
   generalize codeN x ms ds s zs = cd0 at e0 HVC ⊢
   go_wp2_with fail
   refine (copyArr_any _ E F G x _ _ _ _ _ _ ms ds p0 p1 hw).mono ?_
   rintro e w2 ⟨vm, cvm, vd, cvd, m, rfl, om, od, zm, zm2, b2⟩
   have R2 := R1.below b2 (by omega)
   have B2 := Below.andThen B1 b2
   obtain ⟨fm, mm, rm⟩ := om.mine
   obtain ⟨fd, md, rd⟩ := od.mine
   have hr2 : ∀ b ∈ fm, b ∉ fd := fun b hb hb' => by have h1 := rm b hb; have h2 := rd b hb'; omega
   clear X1 R1 S1 D1 B1 p0 p1 p5 b2 om od c1 c2 k0 k1 k2 k3 k4 k5 k6 k7 k8 k9 k10 k11 k12
   obtain ⟨s0, s1, s2, s3, s4, s5, s6, s7, s8, s9, s10, s11, s12⟩ := R2.cells13
   have fz := R2.frozen
   have HO := hidden (arr_outC (y := x) (ns := ms) (code := cd0) (e := .returned (.tuple #[.agg (arrC x _ _), .int .i64 cd0])) (lo := BR + 1) B2 R2 rfl mm md hr2 (fun b hb => by have := rm b hb; omega) (fun b hb => by have := rd b hb; omega) (by omega) (by omega))
   unfold arrC at HO
   simp only [puts] at HO
   clear B2 R2 mm md
   go_wp2
   refine bodyPost_ret (v := .tuple #[.agg #[.int .i64 x.id, .int .i64 x.n, .int .i64 x.s, .slice vm ms.length cvm, .int .i64 x.lost, .int .i64 x.built, .int .i64 x.seq, .int .i64 x.tail, .int .i64 x.gen, .slice vd ds.length cvd, .int .i64 x.fuse, .bool x.down, .bool x.broken], .int .i64 cd0]) (by simp [results, Tryz.results10, go_sem, s0, s1, s2, s3, s4, s5, s6, s7, s8, s9, s10, s11, s12]) rfl ?_
   rw [HV.out, HVC.out]; exact HO.out

theorem implFlushStripe_any (w : World) (E F : TypeId) (x : ArrN) (am ad : Option Addr) (nm cm nd cd : Nat) (ms : List MemD) (ds : List EntD) (fq : List Nat) (h0 : (tMemS E F).Rd w [.slice am nm cm] ms) (h1 : (tWrS 86).Mine w [.slice ad nd cd] ds fq) (hw0 : wtArr ms ds <= 2000000) (t : Int) :
 Calls Tryz.prog 29 #[.agg #[.int .i64 x.id, .int .i64 x.n, .int .i64 x.s, .slice am nm cm, .int .i64 x.lost, .int .i64 x.built, .int .i64 x.seq, .int .i64 x.tail, .int .i64 x.gen, .slice ad nd cd, .int .i64 x.fuse, .bool x.down, .bool x.broken], .int .i64 t] w fun e w' => ArrOutC w w' e (flA x ms ds t) (flC x ms ds t) (flD x ms ds t) := by
 have hw : wtArr ms ds <= 2097152 := by omega
 have hqd := h1.rd
 obtain ⟨rfl, _⟩ := row_length hqd
 clear hqd
 obtain ⟨rfl, _⟩ := row_length h0
 have hA := (new_below w (.cells #[.int .i64 x.id, .int .i64 x.n, .int .i64 x.s, .slice am ms.length cm, .int .i64 x.lost, .int .i64 x.built, .int .i64 x.seq, .int .i64 x.tail, .int .i64 x.gen, .slice ad ds.length cd, .int .i64 x.fuse, .bool x.down, .bool x.broken] 29)).alloc (by simp) (.cells #[.int .i64 0, .int .i64 0, .int .i64 0, .slice none 0 0, .int .i64 0, .int .i64 0, .int .i64 0, .int .i64 0, .int .i64 0, .slice none 0 0, .int .i64 0, .bool false, .bool false] 29)
 have X0 : Box ((w.alloc (.cells #[.int .i64 x.id, .int .i64 x.n, .int .i64 x.s, .slice am ms.length cm, .int .i64 x.lost, .int .i64 x.built, .int .i64 x.seq, .int .i64 x.tail, .int .i64 x.gen, .slice ad ds.length cd, .int .i64 x.fuse, .bool x.down, .bool x.broken] 29)).alloc (.cells #[.int .i64 0, .int .i64 0, .int .i64 0, .slice none 0 0, .int .i64 0, .int .i64 0, .int .i64 0, .int .i64 0, .int .i64 0, .slice none 0 0, .int .i64 0, .bool false, .bool false] 29)) w.heap.size 29 #[.int .i64 x.id, .int .i64 x.n, .int .i64 x.s, .slice am ms.length cm, .int .i64 x.lost, .int .i64 x.built, .int .i64 x.seq, .int .i64 x.tail, .int .i64 x.gen, .slice ad ds.length cd, .int .i64 x.fuse, .bool x.down, .bool x.broken] := (Box.new w _ _).alloc _
 have R0 := Box.new (w.alloc (.cells #[.int .i64 x.id, .int .i64 x.n, .int .i64 x.s, .slice am ms.length cm, .int .i64 x.lost, .int .i64 x.built, .int .i64 x.seq, .int .i64 x.tail, .int .i64 x.gen, .slice ad ds.length cd, .int .i64 x.fuse, .bool x.down, .bool x.broken] 29)) 29 #[.int .i64 0, .int .i64 0, .int .i64 0, .slice none 0 0, .int .i64 0, .int .i64 0, .int .i64 0, .int .i64 0, .int .i64 0, .slice none 0 0, .int .i64 0, .bool false, .bool false]
 rw [World.size_alloc] at R0
 have zX := X0.lt
 have zR := R0.lt
 have r0 := h0.below hA
 have r1 := h1.below hA
 have hlq := h1.lt
 have hzW : ((w.alloc (.cells #[.int .i64 x.id, .int .i64 x.n, .int .i64 x.s, .slice am ms.length cm, .int .i64 x.lost, .int .i64 x.built, .int .i64 x.seq, .int .i64 x.tail, .int .i64 x.gen, .slice ad ds.length cd, .int .i64 x.fuse, .bool x.down, .bool x.broken] 29)).alloc (.cells #[.int .i64 0, .int .i64 0, .int .i64 0, .slice none 0 0, .int .i64 0, .int .i64 0, .int .i64 0, .int .i64 0, .int .i64 0, .slice none 0 0, .int .i64 0, .bool false, .bool false] 29)).heap.size = w.heap.size + 1 + 1 := by simp
 obtain ⟨k0, k1, k2, k3, k4, k5, k6, k7, k8, k9, k10, k11, k12⟩ := X0.cells13
 go_enter Tryz.func29, Tryz.ntmps29
 go_wp2_with fail
 generalize (w.alloc (.cells #[.int .i64 x.id, .int .i64 x.n, .int .i64 x.s, .slice am ms.length cm, .int .i64 x.lost, .int .i64 x.built, .int .i64 x.seq, .int .i64 x.tail, .int .i64 x.gen, .slice ad ds.length cd, .int .i64 x.fuse, .bool x.down, .bool x.broken] 29)).alloc (.cells #[.int .i64 0, .int .i64 0, .int .i64 0, .slice none 0 0, .int .i64 0, .int .i64 0, .int .i64 0, .int .i64 0, .int .i64 0, .slice none 0 0, .int .i64 0, .bool false, .bool false] 29) = W at hA X0 R0 zX zR r0 r1 hzW k0 k1 k2 k3 k4 k5 k6 k7 k8 k9 k10 k11 k12 ⊢
 obtain ⟨BR, hBR⟩ : ∃ BR, w.heap.size + 1 = BR := ⟨_, rfl⟩
 rw [hBR] at R0 zR hzW ⊢
 have q1 : w.heap.size + 1 <= BR /\ BR <= w.heap.size + 1 := by omega
 have q2 : BR + 1 <= W.heap.size /\ W.heap.size <= BR + 1 := by omega
 clear hBR hzW
 refine (stripeCode_any _ E F 86 x _ _ _ _ _ _ ms ds t r0 r1.rd hw).mono ?_
 rintro e w1 ⟨rfl, b1⟩
 have X1 := X0.below b1 zX
 have zX1 := X1.lt
 have R1 := R0.below b1 zR
 have p0 := r0.below b1
 have p1 := r1.below b1
 have B1 := Below.andThen hA b1
 have z1 := b1.size
 clear k0 k1 k2 k3 k4 k5 k6 k7 k8 k9 k10 k11 k12 X0 R0 r0 r1 b1 hA
 obtain ⟨k0, k1, k2, k3, k4, k5, k6, k7, k8, k9, k10, k11, k12⟩ := X1.cells13
 by_cases hc : scode8 x ms ds t = 0
 . have HG := hidden (scode_gs hc)
   have HVG := hidden (fl_good hc)
   have hg := arr_geo HG.out.2.1
   have ht : 0 <= t /\ t <= 100 := by have h1 := (geoB_iff.1 hg).2.2.2; have h2 := inB_iff.1 HG.out.2.2.2; omega
   have hl9 := asc_len (arr_asc HG.out.2.1)
   rw [hc]
   clear hc hg
   go_wp2_with fail
   refine (of_any _ 86 _ _ _ ds t p1.rd (by omega) (arr_asc HG.out.2.1) ht _ (ents_mine p1)).mono ?_
   rintro e w2 ⟨hcase, b2⟩
   have z2 := b2.size
   rcases hcase with ⟨hat, rfl⟩ | ⟨k, ys, a2, c2, hat, hk, rfl, fy, my, ny⟩
   . have HV := hidden (fl_none (x := x) (ms := ms) hat)
     have bn := Below.andThen b2 (new_below w2 (.cells #[.int .i64 0, .slice none 0 0] 86))
     have X2 := X1.below bn zX1
     have R2 := R1.below bn R1.lt
     have P0 := p0.below bn
     have P1 := p1.below bn
     have B2 := Below.andThen B1 bn
     have zn := bn.size
     clear k0 k1 k2 k3 k4 k5 k6 k7 k8 k9 k10 k11 k12 X1 R1 p0 p1 B1 b2 bn hat
     obtain ⟨k0, k1, k2, k3, k4, k5, k6, k7, k8, k9, k10, k11, k12⟩ := X2.cells13
     go_wp2_with fail
     refine (copyArr_any _ E F 86 x _ _ _ _ _ _ ms ds P0 P1.rd hw).mono ?_
     rintro e wc ⟨vm, cvm, vd, cvd, m, rfl, om, od, zm, zm2, bc⟩
     have Rc := R2.below bc R2.lt
     have Bc := Below.andThen B2 bc
     obtain ⟨fm, mf, rm⟩ := om.mine
     obtain ⟨fd, df, rd⟩ := od.mine
     have hrf : ∀ b ∈ fm, b ∉ fd := fun b hb hb' => by have h1 := rm b hb; have h2 := rd b hb'; omega
     have rm9 : ∀ b ∈ fm, W.heap.size <= b := fun b hb => by have := rm b hb; omega
     have rd9 : ∀ b ∈ fd, W.heap.size <= b := fun b hb => by have := rd b hb; omega
     clear X2 R2 B2 k0 k1 k2 k3 k4 k5 k6 k7 k8 k9 k10 k11 k12 om od bc rm rd
     obtain ⟨s0, s1, s2, s3, s4, s5, s6, s7, s8, s9, s10, s11, s12⟩ := Rc.cells13
     have fz := Rc.frozen
     have HO := hidden (arr_outC (y := x) (code := 0) (e := .returned (.tuple #[.agg (arrC x _ _), .int .i64 0])) (lo := BR + 1) Bc Rc rfl mf df hrf (fun b hb => by have := rm9 b hb; omega) (fun b hb => by have := rd9 b hb; omega) (by omega) (by omega))
     unfold arrC at HO
     simp only [puts] at HO
     clear mf df Rc Bc
     go_wp2
     refine bodyPost_ret (v := .tuple #[.agg #[.int .i64 x.id, .int .i64 x.n, .int .i64 x.s, .slice vm ms.length cvm, .int .i64 x.lost, .int .i64 x.built, .int .i64 x.seq, .int .i64 x.tail, .int .i64 x.gen, .slice vd ds.length cvd, .int .i64 x.fuse, .bool x.down, .bool x.broken], .int .i64 0]) (by simp [results, Tryz.results29, go_sem, s0, s1, s2, s3, s4, s5, s6, s7, s8, s9, s10, s11, s12]) rfl ?_
     rw [HVG.out.1, HVG.out.2.1, HVG.out.2.2, HV.out.1, HV.out.2.1, HV.out.2.2]; exact HO.out
   . have HV := hidden (fl_some (x := x) (ms := ms) hat hk)
     have hyl : ys.length <= 2097152 := by have h1 : ys.length <= wtWrS ds := inner_le' hk; unfold wtArr at hw; omega
     have bn := Below.andThen b2 (new_below w2 (.cells #[.int .i64 t, .slice a2 ys.length c2] 86))
     have N2 := Box.new w2 86 #[.int .i64 t, .slice a2 ys.length c2]
     have n1 : (w2.alloc (.cells #[.int .i64 t, .slice a2 ys.length c2] 86)).cell? ⟨w2.heap.size, 1, none⟩ = some (.slice a2 ys.length c2) := N2.cell 1
     have X2 := X1.below bn zX1
     have R2 := R1.below bn R1.lt
     have P0 := p0.below bn
     have P1 := p1.below bn
     have M2 := my.below bn
     have B2 := Below.andThen B1 bn
     have zn := bn.size
     have HK := hidden hk
     have HAT := hidden hat
     clear k0 k1 k2 k3 k4 k5 k6 k7 k8 k9 k10 k11 k12 X1 R1 p0 p1 my B1 b2 bn hat hk N2
     obtain ⟨k0, k1, k2, k3, k4, k5, k6, k7, k8, k9, k10, k11, k12⟩ := X2.cells13
     go_wp2_with fail
     generalize w2.alloc (.cells #[.int .i64 t, .slice a2 ys.length c2] 86) = w3 at n1 X2 R2 P0 P1 M2 B2 zn k0 k1 k2 k3 k4 k5 k6 k7 k8 k9 k10 k11 k12 ⊢
     refine (implWriteStripe_any _ E F 86 x _ _ _ _ _ _ ms ds P0 P1.rd hw0 t _ _ ys fy M2 hyl).mono ?_
     rintro e w4 hq4
     obtain ⟨y, ns, hst⟩ : ∃ (y : ArrN) (ns : List MemD), stripeO x ms ds t ys = (y, ns) := ⟨_, _, rfl⟩
     obtain ⟨sc, hsc⟩ : ∃ sc, stripeC x ms ds t ys = sc := ⟨_, rfl⟩
     rw [hst, hsc] at hq4
     have HV2 := HV.out
     rw [hst, hsc] at HV2
     clear HV hst hsc
     have HV := hidden HV2
     clear HV2
     obtain ⟨vm, vd, cvm, cvd, rfl, ho4, b4⟩ := hq4
     dsimp only at ho4
     unfold arrC
     obtain ⟨fm, fd, mm, md, hr4, rm4, rd4⟩ := ho4
     have z4 := b4.size
     have bo := Below.andThen b4 (new_below w4 (.cells #[.int .i64 y.id, .int .i64 y.n, .int .i64 y.s, .slice vm ns.length cvm, .int .i64 y.lost, .int .i64 y.built, .int .i64 y.seq, .int .i64 y.tail, .int .i64 y.gen, .slice vd ds.length cvd, .int .i64 y.fuse, .bool y.down, .bool y.broken] 29))
     have R5 := R2.below bo R2.lt
     have B5 := Below.andThen B2 bo
     have Y5 := Box.new w4 29 #[.int .i64 y.id, .int .i64 y.n, .int .i64 y.s, .slice vm ns.length cvm, .int .i64 y.lost, .int .i64 y.built, .int .i64 y.seq, .int .i64 y.tail, .int .i64 y.gen, .slice vd ds.length cvd, .int .i64 y.fuse, .bool y.down, .bool y.broken]
     have zY := Y5.lt
     have m5 := mm.alloc (.cells #[.int .i64 y.id, .int .i64 y.n, .int .i64 y.s, .slice vm ns.length cvm, .int .i64 y.lost, .int .i64 y.built, .int .i64 y.seq, .int .i64 y.tail, .int .i64 y.gen, .slice vd ds.length cvd, .int .i64 y.fuse, .bool y.down, .bool y.broken] 29)
     have d5 := md.alloc (.cells #[.int .i64 y.id, .int .i64 y.n, .int .i64 y.s, .slice vm ns.length cvm, .int .i64 y.lost, .int .i64 y.built, .int .i64 y.seq, .int .i64 y.tail, .int .i64 y.gen, .slice vd ds.length cvd, .int .i64 y.fuse, .bool y.down, .bool y.broken] 29)
     have rm5 : ∀ b ∈ fm, W.heap.size <= b /\ ¬ b = w4.heap.size := fun b hb => by have := rm4 b hb; omega
     have rd5 : ∀ b ∈ fd, W.heap.size <= b /\ ¬ b = w4.heap.size := fun b hb => by have := rd4 b hb; omega
     clear k0 k1 k2 k3 k4 k5 k6 k7 k8 k9 k10 k11 k12 X2 R2 P0 P1 M2 B2 b4 bo mm md rm4 rd4 n1
     by_cases hs0 : sc = 0
     . subst hs0
       have hkl := (List.getElem?_eq_some_iff.1 HK.out).1
       obtain ⟨g, rfl⟩ := row_head d5 (by omega)
       have HWI := hidden (without8_any _ g cvd ds fd d5 (arr_asc HG.out.2.1) t k ys HK.out HAT.out (by omega))
       obtain ⟨y0, y1, y2, y3, y4, y5, y6, y7, y8, y9, y10, y11, y12⟩ := Y5.cells13
       go_wp2_with fail
       have R6 := R5
       have B6 := B5
       have Y6 := Y5
       generalize w4.alloc (.cells #[.int .i64 y.id, .int .i64 y.n, .int .i64 y.s, .slice vm ns.length cvm, .int .i64 y.lost, .int .i64 y.built, .int .i64 y.seq, .int .i64 y.tail, .int .i64 y.gen, .slice (some ⟨g, 0, none⟩) ds.length cvd, .int .i64 y.fuse, .bool y.down, .bool y.broken] 29) = w6 at R6 B6 Y6 zY m5 HWI y0 y1 y2 y3 y4 y5 y6 y7 y8 y9 y10 y11 y12 ⊢
       clear R5 B5 Y5 d5
       obtain ⟨B, hB⟩ : ∃ B, w4.heap.size = B := ⟨_, rfl⟩
       rw [hB] at Y6 zY rm5 rd5 y0 y1 y2 y3 y4 y5 y6 y7 y8 y9 y10 y11 y12 ⊢
       have zB : W.heap.size <= B := by omega
       clear hB
       refine HWI.out.mono ?_
       rintro e w8 ⟨g8, c8, fp8, rfl, M8, N8, T8⟩
       have HVD : Hid (flD x ms ds t = ds.take k ++ ds.drop (k + 1)) := by unfold Hid; rw [HVG.out.2.2, HV.out.2.2]; rfl
       generalize ds.take k ++ ds.drop (k + 1) = es at M8 HVD ⊢
       have Y8 := Y6.turned T8 (fun hm => (rd5 _ hm).2 rfl)
       have fz8 := Y8.frozen
       have z6 := B6.size
       have z8 := T8.size
       have Yf : Box (w8.setCell ⟨B, 9, none⟩ (.slice (some ⟨g8, 0, none⟩) es.length c8)) B 29 (arrC y (.slice vm ns.length cvm) (.slice (some ⟨g8, 0, none⟩) es.length c8)) := by
        have := Y8.set 9 (.slice (some ⟨g8, 0, none⟩) es.length c8)
        unfold arrC
        simpa using this
       have TS : Turned [B] w8 (w8.setCell ⟨B, 9, none⟩ (.slice (some ⟨g8, 0, none⟩) es.length c8)) := Turned.setCell _ (by simp)
       have mf := (m5.kept T8 (fun b hb hm => hr4 b hb hm)).kept TS (fun b hb hm => by simp at hm; exact (rm5 b hb).2 hm)
       have hB8 : B ∉ fp8 := fun hm => by rcases N8 _ hm with h | h; exact (rd5 _ h).2 rfl; omega
       have df := M8.kept TS (fun b hb hm => by simp at hm; exact hB8 (hm ▸ hb))
       have lf7 := m5.lt
       have hrf : ∀ b ∈ fm, b ∉ fp8 := fun b hb hm => by rcases N8 _ hm with h | h; exact hr4 b hb h; have := lf7 b hb; omega
       have R8 := R6.turned T8 (fun hm => by have := (rd5 _ hm).1; omega)
       have R9 := R8.turned TS (by simp; omega)
       have nb1 : ¬ BR = B := by omega
       have nb2 : ¬ B = BR := by omega
       have B9 : Below w.heap.size w (w8.setCell ⟨B, 9, none⟩ (.slice (some ⟨g8, 0, none⟩) es.length c8)) := (B6.trans ⟨T8.os, T8.tape, T8.output, T8.size, fun k hk => T8.block k (by omega) (fun hm => by have := (rd5 _ hm).1; omega)⟩).setCell (by show w.heap.size <= B; omega) _
       have rm9 : ∀ b ∈ fm, W.heap.size <= b := fun b hb => (rm5 b hb).1
       have rd9 : ∀ b ∈ fp8, W.heap.size <= b := fun b hb => by rcases N8 b hb with h | h; exact (rd5 b h).1; omega
       clear y0 y1 y2 y3 y4 y5 y6 y7 y8 y9 y10 y11 y12 HWI Y6 m5 M8 N8 R6 B6 T8 TS
       have Y0 := Yf
       unfold arrC at Y0
       obtain ⟨t0, t1, t2, t3, t4, t5, t6, t7, t8, t9, t10, t11, t12⟩ := Y0.cells13
       obtain ⟨s0, s1, s2, s3, s4, s5, s6, s7, s8, s9, s10, s11, s12⟩ := R9.cells13
       have fz := R9.frozen
       have HO := hidden (arr_outC (y := y) (code := 0) (e := .returned (.tuple #[.agg (arrC y _ _), .int .i64 0])) (lo := BR + 1) B9 R9 rfl mf df hrf (fun b hb => by have := rm9 b hb; omega) (fun b hb => by have := rd9 b hb; omega) (by omega) (by omega))
       unfold arrC at HO
       simp only [puts] at HO
       clear Yf Y0 mf df R9 B9
       clear t0 t1 t2 t3 t4 t5 t6 t7 t8 t9 t10 t11 t12 s0 s1 s2 s3 s4 s5 s6 s7 s8 s9 s10 s11 s12 fz
       obtain ⟨t0, t1, t2, t3, t4, t5, t6, t7, t8, t9, t10, t11, t12⟩ := Y8.cells13
       obtain ⟨s0, s1, s2, s3, s4, s5, s6, s7, s8, s9, s10, s11, s12⟩ := R8.cells13
       have fz := R8.frozen
       clear Y8 R8
       go_wp2
       refine bodyPost_ret (v := .tuple #[.agg #[.int .i64 y.id, .int .i64 y.n, .int .i64 y.s, .slice vm ns.length cvm, .int .i64 y.lost, .int .i64 y.built, .int .i64 y.seq, .int .i64 y.tail, .int .i64 y.gen, .slice (some ⟨g8, 0, none⟩) es.length c8, .int .i64 y.fuse, .bool y.down, .bool y.broken], .int .i64 0]) (by simp [results, Tryz.results29, go_sem, s0, s1, s2, s3, s4, s5, s6, s7, s8, s9, s10, s11, s12]) rfl ?_
       rw [HVG.out.1, HVG.out.2.1, HVD.out, HV.out.1, HV.out.2.1]; exact HO.out
     . have e0 : (sc == 0) = false := by simpa using hs0
       have HVD : Hid (flD x ms ds t = ds) := by unfold Hid; rw [HVG.out.2.2, HV.out.2.2, if_neg hs0]
       clear hs0
       have Yf : Box (w4.alloc (.cells #[.int .i64 y.id, .int .i64 y.n, .int .i64 y.s, .slice vm ns.length cvm, .int .i64 y.lost, .int .i64 y.built, .int .i64 y.seq, .int .i64 y.tail, .int .i64 y.gen, .slice vd ds.length cvd, .int .i64 y.fuse, .bool y.down, .bool y.broken] 29)) w4.heap.size 29 (arrC y (.slice vm ns.length cvm) (.slice vd ds.length cvd)) := Y5
       have mf := m5
       have df := d5
       have hrf := hr4
       have rm9 : ∀ b ∈ fm, W.heap.size <= b := fun b hb => (rm5 b hb).1
       have rd9 : ∀ b ∈ fd, W.heap.size <= b := fun b hb => (rd5 b hb).1
       clear Y5 m5 d5
       have Y0 := Yf
       unfold arrC at Y0
       obtain ⟨t0, t1, t2, t3, t4, t5, t6, t7, t8, t9, t10, t11, t12⟩ := Y0.cells13
       obtain ⟨s0, s1, s2, s3, s4, s5, s6, s7, s8, s9, s10, s11, s12⟩ := R5.cells13
       have fz := R5.frozen
       have HO := hidden (arr_outC (y := y) (code := sc) (e := .returned (.tuple #[.agg (arrC y _ _), .int .i64 sc])) (lo := BR + 1) B5 R5 rfl mf df hrf (fun b hb => by have := rm9 b hb; omega) (fun b hb => by have := rd9 b hb; omega) (by omega) (by omega))
       unfold arrC at HO
       simp only [puts] at HO
       clear Yf Y0 mf df R5 B5
       go_wp2
       refine bodyPost_ret (v := .tuple #[.agg #[.int .i64 y.id, .int .i64 y.n, .int .i64 y.s, .slice vm ns.length cvm, .int .i64 y.lost, .int .i64 y.built, .int .i64 y.seq, .int .i64 y.tail, .int .i64 y.gen, .slice vd ds.length cvd, .int .i64 y.fuse, .bool y.down, .bool y.broken], .int .i64 sc]) (by simp [results, Tryz.results29, go_sem, s0, s1, s2, s3, s4, s5, s6, s7, s8, s9, s10, s11, s12]) rfl ?_
       rw [HVG.out.1, HVG.out.2.1, HVD.out, HV.out.1, HV.out.2.1]; exact HO.out
 . have HV := hidden (fl_bad hc)
   have e0 : (scode8 x ms ds t != 0) = true := by simpa using hc
   clear hc
   generalize scode8 x ms ds t = q at e0 HV ⊢
   go_wp2_with fail
   refine (copyArr_any _ E F 86 x _ _ _ _ _ _ ms ds p0 p1.rd hw).mono ?_
   rintro e wc ⟨vm, cvm, vd, cvd, m, rfl, om, od, zm, zm2, bc⟩
   have Rc := R1.below bc R1.lt
   have Bc := Below.andThen B1 bc
   obtain ⟨fm, mf, rm⟩ := om.mine
   obtain ⟨fd, df, rd⟩ := od.mine
   have hrf : ∀ b ∈ fm, b ∉ fd := fun b hb hb' => by have h1 := rm b hb; have h2 := rd b hb'; omega
   have rm9 : ∀ b ∈ fm, W.heap.size <= b := fun b hb => by have := rm b hb; omega
   have rd9 : ∀ b ∈ fd, W.heap.size <= b := fun b hb => by have := rd b hb; omega
   clear X1 R1 B1 k0 k1 k2 k3 k4 k5 k6 k7 k8 k9 k10 k11 k12 om od bc rm rd
   obtain ⟨s0, s1, s2, s3, s4, s5, s6, s7, s8, s9, s10, s11, s12⟩ := Rc.cells13
   have fz := Rc.frozen
   have HO := hidden (arr_outC (y := x) (code := q) (e := .returned (.tuple #[.agg (arrC x _ _), .int .i64 q])) (lo := BR + 1) Bc Rc rfl mf df hrf (fun b hb => by have := rm9 b hb; omega) (fun b hb => by have := rd9 b hb; omega) (by omega) (by omega))
   unfold arrC at HO
   simp only [puts] at HO
   clear mf df Rc Bc
   go_wp2
   refine bodyPost_ret (v := .tuple #[.agg #[.int .i64 x.id, .int .i64 x.n, .int .i64 x.s, .slice vm ms.length cvm, .int .i64 x.lost, .int .i64 x.built, .int .i64 x.seq, .int .i64 x.tail, .int .i64 x.gen, .slice vd ds.length cvd, .int .i64 x.fuse, .bool x.down, .bool x.broken], .int .i64 q]) (by simp [results, Tryz.results29, go_sem, s0, s1, s2, s3, s4, s5, s6, s7, s8, s9, s10, s11, s12]) rfl ?_
   rw [HV.out.1, HV.out.2.1, HV.out.2.2]; exact HO.out

section
variable {P : Program} {ops : Array Oper} {Q : Exit -> Act -> World -> Prop} {S : World -> Prop}
theorem held_two {i i' : Nat} {o o' : Oper} {fuel : Nat} {l : Array Bool} {a : Act} {w : World} {tl tl' : List Oper} (hr : Region.ready .any ops l = [i, i']) (ho : ops.toList.drop i = o :: tl) (ho' : ops.toList.drop i' = o' :: tl') (hw : Region.wanted o (yielded ops a.tmps) = true) (hw' : Region.wanted o' (yielded ops a.tmps) = true)
 (h : ∀ K' : Act -> World -> Prop, Shut (∀ a w, S w -> (S w -> wpAnyH P .any ops Q S fuel (l.setIfInBounds i true) a w) -> K' a w) -> Oper.wp P o a w K' Q)
 (h' : ∀ K' : Act -> World -> Prop, Shut (∀ a w, S w -> (S w -> wpAnyH P .any ops Q S fuel (l.setIfInBounds i' true) a w) -> K' a w) -> Oper.wp P o' a w K' Q) : wpAnyH P .any ops Q S (fuel + 1) l a w :=
 wpAnyH_ready hr (by simp) (AllReadyH.cons (op_at ho) (fun K' hK => by rw [if_pos hw]; exact h K' hK) (AllReadyH.cons (op_at ho') (fun K' hK => by rw [if_pos hw']; exact h' K' hK) AllReadyH.nil))
end

def AllIn (W : World) (B : Nat) (q0 : ArrN × List MemD) (ds : List EntD) (j : Nat) (wr : World) : Prop :=
 ∃ (q : ArrN × List MemD) (fm fd : List Nat), ArrAt wr B q.1 q.2 (ds.drop j) fm fd /\ allR q (ds.drop j) = allR q0 ds /\ wtMemS q.2 <= max (wtMemS q0.2) 10005 /\ Below W.heap.size W wr /\ (∀ b ∈ fm, W.heap.size <= b) /\ ∀ b ∈ fd, W.heap.size <= b
theorem wtWrS_drops (l : List EntD) (k : Nat) : wtWrS (l.drop k) <= wtWrS l := by
 have := wtWrS_drop l k
 omega
theorem arr_put {w4 : World} {B : Nat} {x y : ArrN} {um ud : Value} {ns : List MemD} {es : List EntD} {vm vd : Option Addr} {cvm cvd : Nat} {fm fd : List Nat} (X : Box w4 B 29 (arrC x um ud)) (mm : (tMemS 159 109).Mine w4 [.slice vm ns.length cvm] ns fm) (md : (tWrS 86).Mine w4 [.slice vd es.length cvd] es fd) (hr : ∀ b ∈ fm, b ∉ fd) (r1 : B ∉ fm) (r2 : B ∉ fd) :
 ArrAt (puts w4 B [(0, .int .i64 y.id), (1, .int .i64 y.n), (2, .int .i64 y.s), (3, .slice vm ns.length cvm), (4, .int .i64 y.lost), (5, .int .i64 y.built), (6, .int .i64 y.seq), (7, .int .i64 y.tail), (8, .int .i64 y.gen), (9, .slice vd es.length cvd), (10, .int .i64 y.fuse), (11, .bool y.down), (12, .bool y.broken)]) B y ns es fm fd := by
 have hbt := puts_but B [(0, .int .i64 y.id), (1, .int .i64 y.n), (2, .int .i64 y.s), (3, .slice vm ns.length cvm), (4, .int .i64 y.lost), (5, .int .i64 y.built), (6, .int .i64 y.seq), (7, .int .i64 y.tail), (8, .int .i64 y.gen), (9, .slice vd es.length cvd), (10, .int .i64 y.fuse), (11, .bool y.down), (12, .bool y.broken)] w4
 refine ⟨vm, vd, cvm, cvd, ?_, mm.but hbt (fun b hb => ?_), md.but hbt (fun b hb => ?_), hr, r1, r2⟩
 . unfold arrC at X ⊢
   exact puts_arr X _ _ _ _ _ _ _ _ _ _ _ _ _
 . have : b ≠ B := fun e => r1 (e ▸ hb)
   omega
 . have : b ≠ B := fun e => r2 (e ▸ hb)
   omega

theorem implFlushAll_any (w : World) (E F G : TypeId) (x : ArrN) (am ad : Option Addr) (nm cm nd cd : Nat) (ms : List MemD) (ds : List EntD) (h0 : (tMemS E F).Rd w [.slice am nm cm] ms) (h1 : (tWrS G).Rd w [.slice ad nd cd] ds) (hw0 : wtArr ms ds <= 1900000) :
 Calls Tryz.prog 32 #[.agg #[.int .i64 x.id, .int .i64 x.n, .int .i64 x.s, .slice am nm cm, .int .i64 x.lost, .int .i64 x.built, .int .i64 x.seq, .int .i64 x.tail, .int .i64 x.gen, .slice ad nd cd, .int .i64 x.fuse, .bool x.down, .bool x.broken]] w fun e w' => ArrOutC w w' e (allA x ms ds) (allC x ms ds) (allD x ms ds) := by
 have hw : wtArr ms ds <= 2097152 := by omega
 obtain ⟨rfl, _⟩ := row_length h0
 obtain ⟨rfl, _⟩ := row_length h1
 have hA := (new_below w (.cells #[.int .i64 x.id, .int .i64 x.n, .int .i64 x.s, .slice am ms.length cm, .int .i64 x.lost, .int .i64 x.built, .int .i64 x.seq, .int .i64 x.tail, .int .i64 x.gen, .slice ad ds.length cd, .int .i64 x.fuse, .bool x.down, .bool x.broken] 29)).alloc (by simp) (.cells #[.int .i64 0, .int .i64 0, .int .i64 0, .slice none 0 0, .int .i64 0, .int .i64 0, .int .i64 0, .int .i64 0, .int .i64 0, .slice none 0 0, .int .i64 0, .bool false, .bool false] 29)
 have X0 : Box ((w.alloc (.cells #[.int .i64 x.id, .int .i64 x.n, .int .i64 x.s, .slice am ms.length cm, .int .i64 x.lost, .int .i64 x.built, .int .i64 x.seq, .int .i64 x.tail, .int .i64 x.gen, .slice ad ds.length cd, .int .i64 x.fuse, .bool x.down, .bool x.broken] 29)).alloc (.cells #[.int .i64 0, .int .i64 0, .int .i64 0, .slice none 0 0, .int .i64 0, .int .i64 0, .int .i64 0, .int .i64 0, .int .i64 0, .slice none 0 0, .int .i64 0, .bool false, .bool false] 29)) w.heap.size 29 #[.int .i64 x.id, .int .i64 x.n, .int .i64 x.s, .slice am ms.length cm, .int .i64 x.lost, .int .i64 x.built, .int .i64 x.seq, .int .i64 x.tail, .int .i64 x.gen, .slice ad ds.length cd, .int .i64 x.fuse, .bool x.down, .bool x.broken] := (Box.new w _ _).alloc _
 have R0 := Box.new (w.alloc (.cells #[.int .i64 x.id, .int .i64 x.n, .int .i64 x.s, .slice am ms.length cm, .int .i64 x.lost, .int .i64 x.built, .int .i64 x.seq, .int .i64 x.tail, .int .i64 x.gen, .slice ad ds.length cd, .int .i64 x.fuse, .bool x.down, .bool x.broken] 29)) 29 #[.int .i64 0, .int .i64 0, .int .i64 0, .slice none 0 0, .int .i64 0, .int .i64 0, .int .i64 0, .int .i64 0, .int .i64 0, .slice none 0 0, .int .i64 0, .bool false, .bool false]
 rw [World.size_alloc] at R0
 have zX := X0.lt
 have zR := R0.lt
 have r0 := h0.below hA
 have r1 := h1.below hA
 have hzW : ((w.alloc (.cells #[.int .i64 x.id, .int .i64 x.n, .int .i64 x.s, .slice am ms.length cm, .int .i64 x.lost, .int .i64 x.built, .int .i64 x.seq, .int .i64 x.tail, .int .i64 x.gen, .slice ad ds.length cd, .int .i64 x.fuse, .bool x.down, .bool x.broken] 29)).alloc (.cells #[.int .i64 0, .int .i64 0, .int .i64 0, .slice none 0 0, .int .i64 0, .int .i64 0, .int .i64 0, .int .i64 0, .int .i64 0, .slice none 0 0, .int .i64 0, .bool false, .bool false] 29)).heap.size = w.heap.size + 1 + 1 := by simp
 obtain ⟨k0, k1, k2, k3, k4, k5, k6, k7, k8, k9, k10, k11, k12⟩ := X0.cells13
 go_enter Tryz.func32, Tryz.ntmps32
 go_wp2_with fail
 generalize (w.alloc (.cells #[.int .i64 x.id, .int .i64 x.n, .int .i64 x.s, .slice am ms.length cm, .int .i64 x.lost, .int .i64 x.built, .int .i64 x.seq, .int .i64 x.tail, .int .i64 x.gen, .slice ad ds.length cd, .int .i64 x.fuse, .bool x.down, .bool x.broken] 29)).alloc (.cells #[.int .i64 0, .int .i64 0, .int .i64 0, .slice none 0 0, .int .i64 0, .int .i64 0, .int .i64 0, .int .i64 0, .int .i64 0, .slice none 0 0, .int .i64 0, .bool false, .bool false] 29) = W at hA X0 R0 zX zR r0 r1 hzW k0 k1 k2 k3 k4 k5 k6 k7 k8 k9 k10 k11 k12 ⊢
 obtain ⟨BR, hBR⟩ : ∃ BR, w.heap.size + 1 = BR := ⟨_, rfl⟩
 rw [hBR] at R0 zR hzW ⊢
 have q1 : w.heap.size + 1 <= BR /\ BR <= w.heap.size + 1 := by omega
 clear hBR
 have hzW2 : BR + 1 <= W.heap.size /\ W.heap.size <= BR + 1 := by omega
 clear hzW
 refine' with_keyO (G := _) (A := Outed W x ms ds) ?main (fun key => ?use)
 case use =>
  refine wp_region_held_drew (S := fun w' => w'.cell? ⟨w.heap.size, 0, none⟩ = some (.int .i64 x.id) /\ w'.cell? ⟨w.heap.size, 1, none⟩ = some (.int .i64 x.n) /\ w'.cell? ⟨w.heap.size, 2, none⟩ = some (.int .i64 x.s) /\ w'.cell? ⟨w.heap.size, 3, none⟩ = some (.slice am ms.length cm) /\ w'.cell? ⟨w.heap.size, 4, none⟩ = some (.int .i64 x.lost) /\ w'.cell? ⟨w.heap.size, 5, none⟩ = some (.int .i64 x.built) /\ w'.cell? ⟨w.heap.size, 6, none⟩ = some (.int .i64 x.seq) /\ w'.cell? ⟨w.heap.size, 7, none⟩ = some (.int .i64 x.tail) /\ w'.cell? ⟨w.heap.size, 8, none⟩ = some (.int .i64 x.gen) /\ w'.cell? ⟨w.heap.size, 9, none⟩ = some (.slice ad ds.length cd) /\ w'.cell? ⟨w.heap.size, 10, none⟩ = some (.int .i64 x.fuse) /\ w'.cell? ⟨w.heap.size, 11, none⟩ = some (.bool x.down) /\ w'.cell? ⟨w.heap.size, 12, none⟩ = some (.bool x.broken)) (by kernel_rfl) ?_ (fun hHeld => ?_)
  . exact ⟨k0, k1, k2, k3, k4, k5, k6, k7, k8, k9, k10, k11, k12⟩
  refine held_t 0 hHeld ?_
  refine held_t 2 hHeld ?_
  have HBW := hidden (Below.refl W.heap.size W).drew
  refine held_two (i := 1) (i' := 4) (by kernel_rfl) rfl rfl (by kernel_rfl) (by kernel_rfl) (fun K hK => ?_) (fun K hK => ?_)
  . skip
    go_simp
    refine (copyArr_any _ E F G x _ _ _ _ _ _ ms ds (r0.below HBW.out) (r1.below HBW.out) hw).mono ?_
    rintro e w1 ⟨bm, cm1, bd, cd1, m, rfl, om, od, zm, zm2, b1⟩
    have z1 := b1.size
    have H1 := hidden (Below.andThen HBW.out b1)
    have OM1 := hidden om
    have OD1 := hidden od
    clear om od b1
    clear hHeld
    go_wp2_with fail
    refine hK.out _ _ (X0.below H1.out zX).cells13 (fun hHeld => ?_)
    clear hK K
    refine held_two (i := 3) (i' := 4) (by kernel_rfl) rfl rfl (by kernel_rfl) (by kernel_rfl) (fun K hK => ?_) (fun K hK => ?_)
    . skip
      go_simp
      refine (askCode_any _ E F G x _ _ _ _ _ _ ms ds (r0.below H1.out) (r1.below H1.out) hw).mono ?_
      rintro e w2 ⟨rfl, b2⟩
      have z2 := b2.size
      have H2 := hidden (Below.andThen H1.out b2)
      have OM2 := hidden (OM1.out.below b2)
      have OD2 := hidden ((OD1.out.below b2).widen (Nat.le_refl _) z2)
      clear b2
      clear hHeld
      go_wp2_with fail
      refine hK.out _ _ (X0.below H2.out zX).cells13 (fun hHeld => ?_)
      clear hK K
      refine held_one (i := 4) (by kernel_rfl) rfl (by kernel_rfl) (fun K hK => ?_)
      go_simp
      clear hHeld
      refine hK.out _ _ (X0.below (Below.andThen H2.out (new_below w2 (.cells #[.int .i64 0, .int .i64 0, .int .i64 0, .slice none 0 0, .int .i64 0, .int .i64 0, .int .i64 0, .int .i64 0, .int .i64 0, .slice none 0 0, .int .i64 0, .bool false, .bool false] 29))) zX).cells13 (fun hHeld => ?_)
      clear hK K
      have XO := hidden (Box.new w2 29 #[.int .i64 0, .int .i64 0, .int .i64 0, .slice none 0 0, .int .i64 0, .int .i64 0, .int .i64 0, .int .i64 0, .int .i64 0, .slice none 0 0, .int .i64 0, .bool false, .bool false])
      refine held_one (i := 5) (by kernel_rfl) rfl (by kernel_rfl) (fun K hK => ?_)
      obtain ⟨u0, u1, u2, u3, u4, u5, u6, u7, u8, u9, u10, u11, u12⟩ := XO.out.cells13
      have fz := XO.out.frozen
      go_simp
      clear hHeld
      refine hK.out _ _ (X0.below (Below.andThen H2.out (new_below w2 (.cells #[.int .i64 x.id, .int .i64 x.n, .int .i64 x.s, .slice bm ms.length cm1, .int .i64 x.lost, .int .i64 x.built, .int .i64 x.seq, .int .i64 x.tail, .int .i64 x.gen, .slice bd ds.length cd1, .int .i64 x.fuse, .bool x.down, .bool x.broken] 29))) zX).cells13 (fun hHeld => ?_)
      clear hK K
      have HF : Hid (Outed W x ms ds (w2.heap.size) (w2.alloc (.cells #[.int .i64 x.id, .int .i64 x.n, .int .i64 x.s, .slice bm ms.length cm1, .int .i64 x.lost, .int .i64 x.built, .int .i64 x.seq, .int .i64 x.tail, .int .i64 x.gen, .slice bd ds.length cd1, .int .i64 x.fuse, .bool x.down, .bool x.broken] 29)) bm cm1 bd cd1) := outed_new H2.out OM2.out OD2.out (HBW.out.size) zm (by omega)
      unfold Hid at HF
      replace HF := hidden HF
      refine held_t 6 hHeld ?_
      refine wpAnyH_done (by kernel_rfl) ?_ _
      clear hHeld
      generalize w2.alloc (.cells #[.int .i64 x.id, .int .i64 x.n, .int .i64 x.s, .slice bm ms.length cm1, .int .i64 x.lost, .int .i64 x.built, .int .i64 x.seq, .int .i64 x.tail, .int .i64 x.gen, .slice bd ds.length cd1, .int .i64 x.fuse, .bool x.down, .bool x.broken] 29) = WN at HF ⊢
      generalize w2.heap.size = BN at HF ⊢
      exact key.out BN WN bm cm1 bd cd1 HF.out
    . skip
      go_simp
      clear hHeld
      have HA1 := hidden (Below.andThen H1.out (new_below w1 (.cells #[.int .i64 0, .int .i64 0, .int .i64 0, .slice none 0 0, .int .i64 0, .int .i64 0, .int .i64 0, .int .i64 0, .int .i64 0, .slice none 0 0, .int .i64 0, .bool false, .bool false] 29)))
      refine hK.out _ _ (X0.below HA1.out zX).cells13 (fun hHeld => ?_)
      clear hK K
      have XA := hidden (Box.new w1 29 #[.int .i64 0, .int .i64 0, .int .i64 0, .slice none 0 0, .int .i64 0, .int .i64 0, .int .i64 0, .int .i64 0, .int .i64 0, .slice none 0 0, .int .i64 0, .bool false, .bool false])
      have OMA := hidden (OM1.out.below (new_below w1 (.cells #[.int .i64 0, .int .i64 0, .int .i64 0, .slice none 0 0, .int .i64 0, .int .i64 0, .int .i64 0, .int .i64 0, .int .i64 0, .slice none 0 0, .int .i64 0, .bool false, .bool false] 29)))
      have ODA := hidden (OD1.out.below (new_below w1 (.cells #[.int .i64 0, .int .i64 0, .int .i64 0, .slice none 0 0, .int .i64 0, .int .i64 0, .int .i64 0, .int .i64 0, .int .i64 0, .slice none 0 0, .int .i64 0, .bool false, .bool false] 29)))
      have zA : w1.heap.size + 1 <= (w1.alloc (.cells #[.int .i64 0, .int .i64 0, .int .i64 0, .slice none 0 0, .int .i64 0, .int .i64 0, .int .i64 0, .int .i64 0, .int .i64 0, .slice none 0 0, .int .i64 0, .bool false, .bool false] 29)).heap.size := by simp
      refine held_one (i := 3) (by kernel_rfl) rfl (by kernel_rfl) (fun K hK => ?_)
      go_simp
      refine (askCode_any _ E F G x _ _ _ _ _ _ ms ds (r0.below HA1.out) (r1.below HA1.out) hw).mono ?_
      rintro e w2 ⟨rfl, b2⟩
      have z2 := b2.size
      have H2 := hidden (Below.andThen HA1.out b2)
      have XO := hidden (XA.out.below b2 XA.out.lt)
      have OM2 := hidden (OMA.out.below b2)
      have OD2 := hidden (ODA.out.below b2)
      clear b2
      clear hHeld
      go_wp2_with fail
      refine hK.out _ _ (X0.below H2.out zX).cells13 (fun hHeld => ?_)
      clear hK K
      refine held_one (i := 5) (by kernel_rfl) rfl (by kernel_rfl) (fun K hK => ?_)
      obtain ⟨u0, u1, u2, u3, u4, u5, u6, u7, u8, u9, u10, u11, u12⟩ := XO.out.cells13
      have fz := XO.out.frozen
      go_simp
      clear hHeld
      have HP := hidden (outed_store (x := x) H2.out H1.out.size XO.out OM2.out OD2.out HBW.out.size zm (by omega) (.inr (Nat.le_refl _)))
      simp only [puts] at HP
      refine hK.out _ _ (X0.below HP.out.1 zX).cells13 (fun hHeld => ?_)
      clear hK K
      refine held_t 6 hHeld ?_
      refine wpAnyH_done (by kernel_rfl) ?_ _
      exact key.out _ _ _ _ _ _ HP.out
  . skip
    go_simp
    clear hHeld
    have HA1 := hidden (new_below W (.cells #[.int .i64 0, .int .i64 0, .int .i64 0, .slice none 0 0, .int .i64 0, .int .i64 0, .int .i64 0, .int .i64 0, .int .i64 0, .slice none 0 0, .int .i64 0, .bool false, .bool false] 29)).drew
    refine hK.out _ _ (X0.below HA1.out zX).cells13 (fun hHeld => ?_)
    clear hK K
    have XA : Hid (Box (W.alloc (.cells #[.int .i64 0, .int .i64 0, .int .i64 0, .slice none 0 0, .int .i64 0, .int .i64 0, .int .i64 0, .int .i64 0, .int .i64 0, .slice none 0 0, .int .i64 0, .bool false, .bool false] 29)).drew W.heap.size 29 #[.int .i64 0, .int .i64 0, .int .i64 0, .slice none 0 0, .int .i64 0, .int .i64 0, .int .i64 0, .int .i64 0, .int .i64 0, .slice none 0 0, .int .i64 0, .bool false, .bool false]) := Box.new W 29 #[.int .i64 0, .int .i64 0, .int .i64 0, .slice none 0 0, .int .i64 0, .int .i64 0, .int .i64 0, .int .i64 0, .int .i64 0, .slice none 0 0, .int .i64 0, .bool false, .bool false]
    have zA : W.heap.size + 1 <= (W.alloc (.cells #[.int .i64 0, .int .i64 0, .int .i64 0, .slice none 0 0, .int .i64 0, .int .i64 0, .int .i64 0, .int .i64 0, .int .i64 0, .slice none 0 0, .int .i64 0, .bool false, .bool false] 29)).drew.heap.size := by simp
    refine held_one (i := 1) (by kernel_rfl) rfl (by kernel_rfl) (fun K hK => ?_)
    go_simp
    refine (copyArr_any _ E F G x _ _ _ _ _ _ ms ds (r0.below HA1.out) (r1.below HA1.out) hw).mono ?_
    rintro e w1 ⟨bm, cm1, bd, cd1, m, rfl, om, od, zm, zm2, b1⟩
    have z1 := b1.size
    have H1 := hidden (Below.andThen HA1.out b1)
    have OM1 := hidden om
    have OD1 := hidden od
    have XB := hidden (XA.out.below b1 XA.out.lt)
    clear om od b1
    clear hHeld
    go_wp2_with fail
    refine hK.out _ _ (X0.below H1.out zX).cells13 (fun hHeld => ?_)
    clear hK K
    refine held_one (i := 3) (by kernel_rfl) rfl (by kernel_rfl) (fun K hK => ?_)
    go_simp
    refine (askCode_any _ E F G x _ _ _ _ _ _ ms ds (r0.below H1.out) (r1.below H1.out) hw).mono ?_
    rintro e w2 ⟨rfl, b2⟩
    have z2 := b2.size
    have H2 := hidden (Below.andThen H1.out b2)
    have XO := hidden (XB.out.below b2 XB.out.lt)
    have OM2 := hidden (OM1.out.below b2)
    have OD2 := hidden (OD1.out.below b2)
    clear b2
    clear hHeld
    go_wp2_with fail
    refine hK.out _ _ (X0.below H2.out zX).cells13 (fun hHeld => ?_)
    clear hK K
    refine held_one (i := 5) (by kernel_rfl) rfl (by kernel_rfl) (fun K hK => ?_)
    obtain ⟨u0, u1, u2, u3, u4, u5, u6, u7, u8, u9, u10, u11, u12⟩ := XO.out.cells13
    have fz := XO.out.frozen
    go_simp
    clear hHeld
    have HP := hidden (outed_store (x := x) H2.out (Nat.le_refl _) XO.out OM2.out OD2.out (by omega) zm (by omega) (.inl (by omega)))
    simp only [puts] at HP
    refine hK.out _ _ (X0.below HP.out.1 zX).cells13 (fun hHeld => ?_)
    clear hK K
    refine held_t 6 hHeld ?_
    refine wpAnyH_done (by kernel_rfl) ?_ _
    exact key.out _ _ _ _ _ _ HP.out
 case main =>
  have zB0 : BR < W.heap.size := zR
  intro B w3 bm cm1 bd cd1 HO3
  obtain ⟨b3, zB, Y3, fm, fd, m3, d3, hr3, rm3, rd3⟩ := HO3
  have X3 := X0.below b3 zX
  have R3 := R0.below b3 zR
  have p0 := r0.below b3
  have p1 := r1.below b3
  have B3 := Below.andThen hA b3
  have z3 := b3.size
  have A3 : ArrAt w3 B x ms ds fm fd := ⟨bm, bd, cm1, cd1, Y3, m3, d3, hr3, fun hm => (rm3 _ hm).2 rfl, fun hm => (rd3 _ hm).2 rfl⟩
  have rm2 : ∀ b ∈ fm, W.heap.size <= b := fun b hb => (rm3 b hb).1
  have rd2 : ∀ b ∈ fd, W.heap.size <= b := fun b hb => (rd3 b hb).1
  have BW3 := b3
  have rW1 := r1
  have RW := R0
  have hAW := hA
  clear k0 k1 k2 k3 k4 k5 k6 k7 k8 k9 k10 k11 k12 X0 R0 r0 r1 b3 hA Y3 m3 d3 hr3 rm3 rd3
  have zX3 := X3.lt
  obtain ⟨k0, k1, k2, k3, k4, k5, k6, k7, k8, k9, k10, k11, k12⟩ := X3.cells13
  by_cases hq : ask8 x ms ds = 0
  . have HV := hidden (all_good hq)
    have HG := hidden (ask_good hq).1
    rw [hq]
    clear hq
    have hl9 := asc_len (arr_asc HG.out)
    have c9 : w3.cell? ⟨w.heap.size, 9, none⟩ = some (.slice ad ds.length cd) := k9
    have hcd := (row_length p1).2
    have hwm : wtMemS ms + wtWrS ds <= 1900000 := hw0
    have HI0 : Hid (AllIn W B (x, ms) ds 0 w3) := ⟨(x, ms), fm, fd, A3, rfl, Nat.le_max_left _ _, BW3, rm2, rd2⟩
    have P1 := hidden rW1
    have HRW := hidden RW
    have HBW := hidden hAW
    clear k0 k1 k2 k3 k4 k5 k6 k7 k8 k10 k11 k12 X3 A3 R3 B3 p0 p1 BW3 rW1 RW hAW
    clear k9
    go_wp2
    go_loopw [5, 19] (fun cv iv wr => ∃ j : Nat, j <= ds.length /\ iv = .int .i64 j /\ cv = .int .i64 0 /\ AllIn W B (x, ms) ds j wr) (fun _ iv _ => ds.length - (intOf iv).toNat)
    case atStart => exact ⟨0, Nat.zero_le _, rfl, rfl, HI0.out⟩
    case round =>
     obtain ⟨j, hj, rfl, rfl, ⟨q0, n0⟩, fm1, fd1, hA, hR, hwt, hB, hm, hd⟩ := hrel
     dsimp only at hA hwt
     have hzr := hB.size
     by_cases hjn : j < ds.length
     . have hdj : ds[j]? = some (ds[j]'hjn) := List.getElem?_eq_getElem hjn
       have hcons : ds.drop j = (ds[j]'hjn) :: ds.drop (j + 1) := List.drop_eq_getElem_cons hjn
       generalize ds[j]'hjn = d at hdj hcons
       obtain ⟨t, ys⟩ := d
       obtain ⟨b, off, a1, c1, hb1, hbl, v0, v1, _⟩ := ents_so P1.out j _ hdj
       simp only at v0 v1
       subst hb1
       have hc0 := (hB.cell (p := ⟨b, off + j * 2, none⟩) hbl).trans v0
       have hc1 := (hB.cell (p := ⟨b, off + j * 2 + 1, none⟩) hbl).trans v1
       have BN := new_below wr (.cells #[.int .i64 t, .slice a1 ys.length c1] 86)
       have XE := Box.new wr 86 #[.int .i64 t, .slice a1 ys.length c1]
       have e0 : (wr.alloc (.cells #[.int .i64 t, .slice a1 ys.length c1] 86)).cell? ⟨wr.heap.size, 0, none⟩ = some (.int .i64 t) := XE.cell 0
       rw [hcons] at hA hR
       have A1 := hA.below BN
       have lB1 := A1.lt
       obtain ⟨vm, vd, cvm, cvd, Y, mm, md, hrr, r1, r2⟩ := A1
       have Y0 := Y
       unfold arrC at Y0
       obtain ⟨y0, y1, y2, y3, y4, y5, y6, y7, y8, y9, y10, y11, y12⟩ := Y0.cells13
       have hw4 : wtArr n0 ((t, ys) :: ds.drop (j + 1)) <= 2000000 := by
        have h1 := wtWrS_drops ds j
        rw [hcons] at h1
        have h2 : wtMemS n0 <= max (wtMemS ms) 10005 := hwt
        unfold wtArr
        omega
       have HFL := hidden (implFlushStripe_any (wr.alloc (.cells #[.int .i64 t, .slice a1 ys.length c1] 86)) 159 109 q0 vm vd _ cvm _ cvd n0 ((t, ys) :: ds.drop (j + 1)) fd1 mm.rd md hw4 t)
       obtain ⟨fs1, fs2, fs3⟩ := fl_same (q := (q0, n0)) (e := ((t, ys) : EntD)) (es := ds.drop (j + 1))
       dsimp only at fs1 fs2 fs3
       rw [fs1, fs2, fs3] at HFL
       have HST := hidden (fun h0 => (allR_step (q := (q0, n0)) (e := ((t, ys) : EntD)) (es := ds.drop (j + 1)) h0).symm.trans hR)
       have HSP := hidden (fun h0 => (allR_stop (q := (q0, n0)) (e := ((t, ys) : EntD)) (es := ds.drop (j + 1)) h0).symm.trans hR)
       have HFD := hidden (fl_head (q := (q0, n0)) (e := ((t, ys) : EntD)) (es := ds.drop (j + 1)))
       have HWT := hidden (fl8A_wt (q0, n0) ((t, ys) :: ds.drop (j + 1)) t)
       dsimp only at HST HSP HFD HWT
       have BW1 := Below.andThen hB BN
       have HY := hidden Y
       have HB1 := hidden BW1
       have zE := XE.lt
       have HWQ := hidden hwt
       have k1 : (0 : Int) <= (j : Int) := by omega
       have k2 : (j : Int) < (ds.length : Int) := by omega
       obtain ⟨dl, hdl⟩ : ∃ dl, (((t, ys) : EntD) :: ds.drop (j + 1)).length = dl := ⟨_, rfl⟩
       rw [hdl] at y9 HFL HY
       have HDL := hidden hdl
       clear hA hR hwt hB hm hd BN XE Y Y0 mm md hrr r1 r2 v0 v1 fs1 fs2 fs3 BW1 hdl hdj hw4
       go_wp2_with fail
       generalize wr.alloc (.cells #[.int .i64 t, .slice a1 ys.length c1] 86) = w1 at lB1 y0 y1 y2 y3 y4 y5 y6 y7 y8 y9 y10 y11 y12 e0 HFL HY HB1 zE ⊢
       refine HFL.out.mono ?_
       rintro e w4 ho4
       obtain ⟨fa, hfa⟩ : ∃ fa, fl8A q0 n0 ((t, ys) :: ds.drop (j + 1)) t = fa := ⟨_, rfl⟩
       obtain ⟨fc, hfc⟩ : ∃ fc, fl8C q0 n0 ((t, ys) :: ds.drop (j + 1)) t = fc := ⟨_, rfl⟩
       obtain ⟨fe, hfe⟩ : ∃ fe, fl8D q0 n0 ((t, ys) :: ds.drop (j + 1)) t = fe := ⟨_, rfl⟩
       rw [hfa, hfc, hfe] at ho4
       rw [hfa, hfc] at HST
       rw [hfa, hfc] at HSP
       rw [hfc, hfe] at HFD
       rw [hfa] at HWT
       clear hfa hfc hfe HFL
       obtain ⟨y, ns⟩ := fa
       dsimp only at HWT
       obtain ⟨vm, vd, cvm, cvd, rfl, ho5, b4⟩ := ho4
       dsimp only at ho5
       unfold arrC
       obtain ⟨fm4, fd4, mm4, md4, hr4, rm4, rd4⟩ := ho5
       have z4 := b4.size
       have Y4 := HY.out.below b4 lB1
       have nB4 : B ∉ fm4 /\ B ∉ fd4 := ⟨fun hm => by have := (rm4 _ hm).1; omega, fun hm => by have := (rd4 _ hm).1; omega⟩
       have AP := hidden (arr_put (y := y) Y4 mm4 md4 hr4 nB4.1 nB4.2)
       simp only [puts] at AP
       have PB := puts_but B [(0, .int .i64 y.id), (1, .int .i64 y.n), (2, .int .i64 y.s), (3, .slice vm ns.length cvm), (4, .int .i64 y.lost), (5, .int .i64 y.built), (6, .int .i64 y.seq), (7, .int .i64 y.tail), (8, .int .i64 y.gen), (9, .slice vd fe.length cvd), (10, .int .i64 y.fuse), (11, .bool y.down), (12, .bool y.broken)] w4
       simp only [puts] at PB
       have B5 := hidden (Below.andBut (Below.andThen HB1.out b4) PB zB)
       have rm5 : Hid (∀ b ∈ fm4, W.heap.size <= b) := fun b hb => by have h1 := (rm4 b hb).1; have h2 := HB1.out.size; omega
       have rd5 : Hid (∀ b ∈ fd4, W.heap.size <= b) := fun b hb => by have h1 := (rd4 b hb).1; have h2 := HB1.out.size; omega
       have Y40 := Y4
       unfold arrC at Y40
       obtain ⟨u0, u1, u2, u3, u4, u5, u6, u7, u8, u9, u10, u11, u12⟩ := Y40.cells13
       have fzB := Y4.frozen
       clear mm4 md4 hr4 rm4 rd4 b4 PB Y4 Y40 HY HB1 y0 y1 y2 y3 y4 y5 y6 y7 y8 y9 y10 y11 y12 e0
       go_upto_region 8 with fail
       generalize (((((((((((((w4).setCell ⟨B, 0, none⟩ (.int .i64 y.id)).setCell ⟨B, 1, none⟩ (.int .i64 y.n)).setCell ⟨B, 2, none⟩ (.int .i64 y.s)).setCell ⟨B, 3, none⟩ (.slice vm ns.length cvm)).setCell ⟨B, 4, none⟩ (.int .i64 y.lost)).setCell ⟨B, 5, none⟩ (.int .i64 y.built)).setCell ⟨B, 6, none⟩ (.int .i64 y.seq)).setCell ⟨B, 7, none⟩ (.int .i64 y.tail)).setCell ⟨B, 8, none⟩ (.int .i64 y.gen)).setCell ⟨B, 9, none⟩ (.slice vd fe.length cvd)).setCell ⟨B, 10, none⟩ (.int .i64 y.fuse)).setCell ⟨B, 11, none⟩ (.bool y.down)).setCell ⟨B, 12, none⟩ (.bool y.broken) = w5 at AP B5 ⊢
       clear u0 u1 u2 u3 u4 u5 u6 u7 u8 u9 u10 u11 u12 fzB
       by_cases h0 : fc = 0
       . subst h0
         have hfe2 : fe = ds.drop (j + 1) := by have := HFD.out; rw [if_pos rfl] at this; exact this
         have HN : Hid (AllIn W B (x, ms) ds (j + 1) w5) := by
          refine ⟨(y, ns), fm4, fd4, by rw [← hfe2]; exact AP.out, HST.out rfl, ?_, B5.out, rm5.out, rd5.out⟩
          have h1 : wtMemS ns <= max (wtMemS n0) 10005 := HWT.out
          have h2 : wtMemS n0 <= max (wtMemS ms) 10005 := HWQ.out
          show wtMemS ns <= max (wtMemS ms) 10005
          omega
         clear AP B5 rm5 rd5 hfe2 HST HSP HFD
         go_wp2
         go_roundw
         case rel => exact ⟨j + 1, by omega, by go_num, rfl, HN.out⟩
         case measure => simp [intOf]; omega
       . have ec : (fc != 0) = true := by simpa using h0
         have hfe2 : fe = (t, ys) :: ds.drop (j + 1) := by have := HFD.out; rw [if_neg h0] at this; exact this
         have HRR : Hid (((y, ns), fe, fc) = allR (x, ms) ds) := by unfold Hid; rw [hfe2]; exact HSP.out h0
         clear h0 HST HSP HFD hfe2
         have A5 := AP.out
         have R9 := HRW.out.below B5.out zR
         have B9 := Below.andThen HBW.out B5.out
         have rm9 := rm5.out
         have rd9 := rd5.out
         clear AP B5 rm5 rd5
         obtain ⟨vm, vd, cvm, cvd, Yf, mf, df, hrf, r1f, r2f⟩ := A5
         have Y0 := Yf
         unfold arrC at Y0
         obtain ⟨t0, t1, t2, t3, t4, t5, t6, t7, t8, t9, t10, t11, t12⟩ := Y0.cells13
         obtain ⟨s0, s1, s2, s3, s4, s5, s6, s7, s8, s9, s10, s11, s12⟩ := R9.cells13
         have fz := R9.frozen
         have HO := hidden (arr_outC (y := y) (code := fc) (e := .returned (.tuple #[.agg (arrC y _ _), .int .i64 fc])) (lo := BR + 1) B9 R9 rfl mf df hrf (fun b hb => by have := rm9 b hb; omega) (fun b hb => by have := rd9 b hb; omega) (by omega) (by omega))
         unfold arrC at HO
         simp only [puts] at HO
         clear Yf Y0 mf df R9 B9
         generalize hdl : (fe).length = dl at t9 HO ⊢
         have HDL := hidden hdl
         clear hdl
         go_wp2
         refine bodyPost_ret (v := .tuple #[.agg #[.int .i64 y.id, .int .i64 y.n, .int .i64 y.s, .slice vm ns.length cvm, .int .i64 y.lost, .int .i64 y.built, .int .i64 y.seq, .int .i64 y.tail, .int .i64 y.gen, .slice vd dl cvd, .int .i64 y.fuse, .bool y.down, .bool y.broken], .int .i64 fc]) (by simp [results, Tryz.results32, go_sem, s0, s1, s2, s3, s4, s5, s6, s7, s8, s9, s10, s11, s12]) rfl ?_
         rw [HV.out.1, HV.out.2.1, HV.out.2.2, ← HRR.out]; exact HO.out
     . have hnil : ds.drop j = [] := List.drop_eq_nil_of_le (by omega)
       obtain ⟨es, hes⟩ : ∃ es, ds.drop j = es := ⟨_, rfl⟩
       rw [hes] at hA hR hnil
       have HRR : Hid (((q0, n0), es, (0 : Int)) = allR (x, ms) ds) := by unfold Hid; rw [← hR, hnil]; rfl
       have k2 : ¬ (j : Int) < (ds.length : Int) := by omega
       have R9 := HRW.out.below hB zR
       have B9 := Below.andThen HBW.out hB
       clear hR hnil hes hwt hB
       obtain ⟨vm, vd, cvm, cvd, Yf, mf, df, hrf, r1f, r2f⟩ := hA
       have Y0 := Yf
       unfold arrC at Y0
       obtain ⟨t0, t1, t2, t3, t4, t5, t6, t7, t8, t9, t10, t11, t12⟩ := Y0.cells13
       obtain ⟨s0, s1, s2, s3, s4, s5, s6, s7, s8, s9, s10, s11, s12⟩ := R9.cells13
       have fz := R9.frozen
       have HO := hidden (arr_outC (y := q0) (code := 0) (e := .returned (.tuple #[.agg (arrC q0 _ _), .int .i64 0])) (lo := BR + 1) B9 R9 rfl mf df hrf (fun b hb => by have := hm b hb; omega) (fun b hb => by have := hd b hb; omega) (by omega) (by omega))
       unfold arrC at HO
       simp only [puts] at HO
       clear Yf Y0 mf df R9 B9
       generalize hdl : (es).length = dl at t9 HO ⊢
       have HDL := hidden hdl
       clear hdl
       go_wp2
       refine bodyPost_ret (v := .tuple #[.agg #[.int .i64 q0.id, .int .i64 q0.n, .int .i64 q0.s, .slice vm n0.length cvm, .int .i64 q0.lost, .int .i64 q0.built, .int .i64 q0.seq, .int .i64 q0.tail, .int .i64 q0.gen, .slice vd dl cvd, .int .i64 q0.fuse, .bool q0.down, .bool q0.broken], .int .i64 0]) (by simp [results, Tryz.results32, go_sem, s0, s1, s2, s3, s4, s5, s6, s7, s8, s9, s10, s11, s12]) rfl ?_
       rw [HV.out.1, HV.out.2.1, HV.out.2.2, ← HRR.out]; exact HO.out
  . have HV := hidden (all_bad hq)
    have e0 : (ask8 x ms ds != 0) = true := by simpa using hq
    clear hq k0 k1 k2 k3 k4 k5 k6 k7 k8 k9 k10 k11 k12 X3 p0 p1 BW3 rW1 RW hAW
    generalize ask8 x ms ds = q at e0 HV ⊢
    obtain ⟨vm, vd, cvm, cvd, Yf, mf, df, hrf, r1f, r2f⟩ := A3
    have Y0 := Yf
    unfold arrC at Y0
    obtain ⟨t0, t1, t2, t3, t4, t5, t6, t7, t8, t9, t10, t11, t12⟩ := Y0.cells13
    obtain ⟨s0, s1, s2, s3, s4, s5, s6, s7, s8, s9, s10, s11, s12⟩ := R3.cells13
    have fz := R3.frozen
    have HO := hidden (arr_outC (y := x) (code := q) (e := .returned (.tuple #[.agg (arrC x _ _), .int .i64 q])) (lo := BR + 1) B3 R3 rfl mf df hrf (fun b hb => by have := rm2 b hb; omega) (fun b hb => by have := rd2 b hb; omega) (by omega) (by omega))
    unfold arrC at HO
    simp only [puts] at HO
    clear Yf Y0 mf df R3 B3
    go_wp2
    refine bodyPost_ret (v := .tuple #[.agg #[.int .i64 x.id, .int .i64 x.n, .int .i64 x.s, .slice vm ms.length cvm, .int .i64 x.lost, .int .i64 x.built, .int .i64 x.seq, .int .i64 x.tail, .int .i64 x.gen, .slice vd ds.length cvd, .int .i64 x.fuse, .bool x.down, .bool x.broken], .int .i64 q]) (by simp [results, Tryz.results32, go_sem, s0, s1, s2, s3, s4, s5, s6, s7, s8, s9, s10, s11, s12]) rfl ?_
    rw [HV.out.1, HV.out.2.1, HV.out.2.2]; exact HO.out

theorem l6Copy_any (w : World) (E F G : TypeId) (x : ArrN) (am ad : Option Addr) (nm cm nd cd : Nat) (ms : List MemD) (ds : List (Int × List Int)) (h0 : (tMemS E F).Rd w [.slice am nm cm] ms) (h1 : (tWrS G).Rd w [.slice ad nd cd] ds) (hw : wtArr ms ds <= 2097152) :
 Calls Tryz.prog 56 #[.agg #[.int .i64 x.id, .int .i64 x.n, .int .i64 x.s, .slice am nm cm, .int .i64 x.lost, .int .i64 x.built, .int .i64 x.seq, .int .i64 x.tail, .int .i64 x.gen, .slice ad nd cd, .int .i64 x.fuse, .bool x.down, .bool x.broken]] w fun e w' => ∃ bm cm' bd cd' m, e = .returned (.agg #[.int .i64 x.id, .int .i64 x.n, .int .i64 x.s, .slice bm nm cm', .int .i64 x.lost, .int .i64 x.built, .int .i64 x.seq, .int .i64 x.tail, .int .i64 x.gen, .slice bd nd cd', .int .i64 x.fuse, .bool x.down, .bool x.broken]) /\ (tMemS 159 109).Own w' w.heap.size m [.slice bm nm cm'] ms /\ (tWrS 86).Own w' m w'.heap.size [.slice bd nd cd'] ds /\ w.heap.size <= m /\ m <= w'.heap.size /\ Below w.heap.size w w' := by
 have hwm : wtMemS ms <= 2097152 := by unfold wtArr at hw; omega
 have hwd : wtWrS ds <= 2097152 := by unfold wtArr at hw; omega
 obtain ⟨hl0, _, hm0⟩ := row_length h0
 obtain ⟨hl1, _, hm1⟩ := row_length h1
 have hn0 : nm <= 2097152 := by unfold wtMemS at hwm; omega
 have hn1 : nd <= 2097152 := by unfold wtWrS at hwd; omega
 obtain ⟨i3, hi3, hx0, hx1, hx2⟩ := info_parts Tryz.info3
 obtain ⟨i1, hi1, hy0, hy1, hy2⟩ := info_parts Tryz.infoEnt
 obtain ⟨i4, hi4, hz0, hz1, hz2⟩ := info_parts Tryz.infoMem
 have zz : ∀ u : World, ∀ ob : Obj, (u.alloc ob).heap.size = u.heap.size + 1 := fun u ob => by simp
 have xm : Box ((((w.alloc (.cells #[.int .i64 x.id, .int .i64 x.n, .int .i64 x.s, .slice am nm cm, .int .i64 x.lost, .int .i64 x.built, .int .i64 x.seq, .int .i64 x.tail, .int .i64 x.gen, .slice ad nd cd, .int .i64 x.fuse, .bool x.down, .bool x.broken] 29)).alloc (.cells #[.int .i64 0, .int .i64 0, .int .i64 0, .slice none 0 0, .int .i64 0, .int .i64 0, .int .i64 0, .int .i64 0, .int .i64 0, .slice none 0 0, .int .i64 0, .bool false, .bool false] 29)).alloc (.cells #[.int .i64 x.id, .int .i64 x.n, .int .i64 x.s, .slice (some ⟨w.heap.size + 1 + 1 + 1, 0, none⟩) 0 0, .int .i64 x.lost, .int .i64 x.built, .int .i64 x.seq, .int .i64 x.tail, .int .i64 x.gen, .slice ad nd cd, .int .i64 x.fuse, .bool x.down, .bool x.broken] 29)).alloc (.cells #[] 109)) (w.heap.size) 29 #[.int .i64 x.id, .int .i64 x.n, .int .i64 x.s, .slice am nm cm, .int .i64 x.lost, .int .i64 x.built, .int .i64 x.seq, .int .i64 x.tail, .int .i64 x.gen, .slice ad nd cd, .int .i64 x.fuse, .bool x.down, .bool x.broken] := (((Box.new w _ _).alloc _).alloc _).alloc _
 have xr0 := Box.new (w.alloc (.cells #[.int .i64 x.id, .int .i64 x.n, .int .i64 x.s, .slice am nm cm, .int .i64 x.lost, .int .i64 x.built, .int .i64 x.seq, .int .i64 x.tail, .int .i64 x.gen, .slice ad nd cd, .int .i64 x.fuse, .bool x.down, .bool x.broken] 29)) 29 #[.int .i64 0, .int .i64 0, .int .i64 0, .slice none 0 0, .int .i64 0, .int .i64 0, .int .i64 0, .int .i64 0, .int .i64 0, .slice none 0 0, .int .i64 0, .bool false, .bool false]
 rw [zz] at xr0
 have xr : Box ((((w.alloc (.cells #[.int .i64 x.id, .int .i64 x.n, .int .i64 x.s, .slice am nm cm, .int .i64 x.lost, .int .i64 x.built, .int .i64 x.seq, .int .i64 x.tail, .int .i64 x.gen, .slice ad nd cd, .int .i64 x.fuse, .bool x.down, .bool x.broken] 29)).alloc (.cells #[.int .i64 0, .int .i64 0, .int .i64 0, .slice none 0 0, .int .i64 0, .int .i64 0, .int .i64 0, .int .i64 0, .int .i64 0, .slice none 0 0, .int .i64 0, .bool false, .bool false] 29)).alloc (.cells #[.int .i64 x.id, .int .i64 x.n, .int .i64 x.s, .slice (some ⟨w.heap.size + 1 + 1 + 1, 0, none⟩) 0 0, .int .i64 x.lost, .int .i64 x.built, .int .i64 x.seq, .int .i64 x.tail, .int .i64 x.gen, .slice ad nd cd, .int .i64 x.fuse, .bool x.down, .bool x.broken] 29)).alloc (.cells #[] 109)) (w.heap.size + 1) 29 #[.int .i64 0, .int .i64 0, .int .i64 0, .slice none 0 0, .int .i64 0, .int .i64 0, .int .i64 0, .int .i64 0, .int .i64 0, .slice none 0 0, .int .i64 0, .bool false, .bool false] := (xr0.alloc _).alloc _
 have xo0 := Box.new ((w.alloc (.cells #[.int .i64 x.id, .int .i64 x.n, .int .i64 x.s, .slice am nm cm, .int .i64 x.lost, .int .i64 x.built, .int .i64 x.seq, .int .i64 x.tail, .int .i64 x.gen, .slice ad nd cd, .int .i64 x.fuse, .bool x.down, .bool x.broken] 29)).alloc (.cells #[.int .i64 0, .int .i64 0, .int .i64 0, .slice none 0 0, .int .i64 0, .int .i64 0, .int .i64 0, .int .i64 0, .int .i64 0, .slice none 0 0, .int .i64 0, .bool false, .bool false] 29)) 29 #[.int .i64 x.id, .int .i64 x.n, .int .i64 x.s, .slice (some ⟨w.heap.size + 1 + 1 + 1, 0, none⟩) 0 0, .int .i64 x.lost, .int .i64 x.built, .int .i64 x.seq, .int .i64 x.tail, .int .i64 x.gen, .slice ad nd cd, .int .i64 x.fuse, .bool x.down, .bool x.broken]
 rw [zz, zz] at xo0
 have xo : Box ((((w.alloc (.cells #[.int .i64 x.id, .int .i64 x.n, .int .i64 x.s, .slice am nm cm, .int .i64 x.lost, .int .i64 x.built, .int .i64 x.seq, .int .i64 x.tail, .int .i64 x.gen, .slice ad nd cd, .int .i64 x.fuse, .bool x.down, .bool x.broken] 29)).alloc (.cells #[.int .i64 0, .int .i64 0, .int .i64 0, .slice none 0 0, .int .i64 0, .int .i64 0, .int .i64 0, .int .i64 0, .int .i64 0, .slice none 0 0, .int .i64 0, .bool false, .bool false] 29)).alloc (.cells #[.int .i64 x.id, .int .i64 x.n, .int .i64 x.s, .slice (some ⟨w.heap.size + 1 + 1 + 1, 0, none⟩) 0 0, .int .i64 x.lost, .int .i64 x.built, .int .i64 x.seq, .int .i64 x.tail, .int .i64 x.gen, .slice ad nd cd, .int .i64 x.fuse, .bool x.down, .bool x.broken] 29)).alloc (.cells #[] 109)) (w.heap.size + 1 + 1) 29 #[.int .i64 x.id, .int .i64 x.n, .int .i64 x.s, .slice (some ⟨w.heap.size + 1 + 1 + 1, 0, none⟩) 0 0, .int .i64 x.lost, .int .i64 x.built, .int .i64 x.seq, .int .i64 x.tail, .int .i64 x.gen, .slice ad nd cd, .int .i64 x.fuse, .bool x.down, .bool x.broken] := xo0.alloc _
 have ml := lit0_mine (t := tMem 159) (E := 109) (((w.alloc (.cells #[.int .i64 x.id, .int .i64 x.n, .int .i64 x.s, .slice am nm cm, .int .i64 x.lost, .int .i64 x.built, .int .i64 x.seq, .int .i64 x.tail, .int .i64 x.gen, .slice ad nd cd, .int .i64 x.fuse, .bool x.down, .bool x.broken] 29)).alloc (.cells #[.int .i64 0, .int .i64 0, .int .i64 0, .slice none 0 0, .int .i64 0, .int .i64 0, .int .i64 0, .int .i64 0, .int .i64 0, .slice none 0 0, .int .i64 0, .bool false, .bool false] 29)).alloc (.cells #[.int .i64 x.id, .int .i64 x.n, .int .i64 x.s, .slice (some ⟨w.heap.size + 1 + 1 + 1, 0, none⟩) 0 0, .int .i64 x.lost, .int .i64 x.built, .int .i64 x.seq, .int .i64 x.tail, .int .i64 x.gen, .slice ad nd cd, .int .i64 x.fuse, .bool x.down, .bool x.broken] 29))
 rw [zz, zz, zz] at ml
 have hB : Below (w.heap.size) w ((((w.alloc (.cells #[.int .i64 x.id, .int .i64 x.n, .int .i64 x.s, .slice am nm cm, .int .i64 x.lost, .int .i64 x.built, .int .i64 x.seq, .int .i64 x.tail, .int .i64 x.gen, .slice ad nd cd, .int .i64 x.fuse, .bool x.down, .bool x.broken] 29)).alloc (.cells #[.int .i64 0, .int .i64 0, .int .i64 0, .slice none 0 0, .int .i64 0, .int .i64 0, .int .i64 0, .int .i64 0, .int .i64 0, .slice none 0 0, .int .i64 0, .bool false, .bool false] 29)).alloc (.cells #[.int .i64 x.id, .int .i64 x.n, .int .i64 x.s, .slice (some ⟨w.heap.size + 1 + 1 + 1, 0, none⟩) 0 0, .int .i64 x.lost, .int .i64 x.built, .int .i64 x.seq, .int .i64 x.tail, .int .i64 x.gen, .slice ad nd cd, .int .i64 x.fuse, .bool x.down, .bool x.broken] 29)).alloc (.cells #[] 109)) := ((((Below.refl _ _).alloc (Nat.le_refl _) _).alloc (by simp) _).alloc (by simp; omega) _).alloc (by simp; omega) _
 have hz : w.heap.size + 1 + 1 + 1 < ((((w.alloc (.cells #[.int .i64 x.id, .int .i64 x.n, .int .i64 x.s, .slice am nm cm, .int .i64 x.lost, .int .i64 x.built, .int .i64 x.seq, .int .i64 x.tail, .int .i64 x.gen, .slice ad nd cd, .int .i64 x.fuse, .bool x.down, .bool x.broken] 29)).alloc (.cells #[.int .i64 0, .int .i64 0, .int .i64 0, .slice none 0 0, .int .i64 0, .int .i64 0, .int .i64 0, .int .i64 0, .int .i64 0, .slice none 0 0, .int .i64 0, .bool false, .bool false] 29)).alloc (.cells #[.int .i64 x.id, .int .i64 x.n, .int .i64 x.s, .slice (some ⟨w.heap.size + 1 + 1 + 1, 0, none⟩) 0 0, .int .i64 x.lost, .int .i64 x.built, .int .i64 x.seq, .int .i64 x.tail, .int .i64 x.gen, .slice ad nd cd, .int .i64 x.fuse, .bool x.down, .bool x.broken] 29)).alloc (.cells #[] 109)).heap.size := by simp
 clear xr0 xo0 zz
 go_enter Tryz.func56, Tryz.ntmps56
 go_wp2
 generalize (((w.alloc (.cells #[.int .i64 x.id, .int .i64 x.n, .int .i64 x.s, .slice am nm cm, .int .i64 x.lost, .int .i64 x.built, .int .i64 x.seq, .int .i64 x.tail, .int .i64 x.gen, .slice ad nd cd, .int .i64 x.fuse, .bool x.down, .bool x.broken] 29)).alloc (.cells #[.int .i64 0, .int .i64 0, .int .i64 0, .slice none 0 0, .int .i64 0, .int .i64 0, .int .i64 0, .int .i64 0, .int .i64 0, .slice none 0 0, .int .i64 0, .bool false, .bool false] 29)).alloc (.cells #[.int .i64 x.id, .int .i64 x.n, .int .i64 x.s, .slice (some ⟨w.heap.size + 1 + 1 + 1, 0, none⟩) 0 0, .int .i64 x.lost, .int .i64 x.built, .int .i64 x.seq, .int .i64 x.tail, .int .i64 x.gen, .slice ad nd cd, .int .i64 x.fuse, .bool x.down, .bool x.broken] 29)).alloc (.cells #[] 109) = W2 at xm xr xo ml hB hz ⊢
 obtain ⟨LB, hLB⟩ : ∃ LB, w.heap.size + 1 + 1 + 1 = LB := ⟨_, rfl⟩
 rw [hLB] at xo ml hz ⊢
 have q3 : w.heap.size + 1 + 1 + 1 <= LB /\ LB <= w.heap.size + 1 + 1 + 1 := by omega
 clear hLB
 obtain ⟨BO, hBO⟩ : ∃ BO, w.heap.size + 1 + 1 = BO := ⟨_, rfl⟩
 rw [hBO] at xo ⊢
 have q2 : w.heap.size + 1 + 1 <= BO /\ BO <= w.heap.size + 1 + 1 := by omega
 clear hBO
 obtain ⟨BR, hBR⟩ : ∃ BR, w.heap.size + 1 = BR := ⟨_, rfl⟩
 rw [hBR] at xr ⊢
 have q1 : w.heap.size + 1 <= BR /\ BR <= w.heap.size + 1 := by omega
 clear hBR
 have XM2 := hidden xm
 have XR2 := hidden xr
 have XO2 := hidden xo
 have ML2 := hidden ml
 have HB2 := hidden hB
 clear xm xr xo ml hB
 go_loopw [4] (fun i wr => ∃ (j : Nat) (v0 : Value) (fp0 : List Nat), j <= nm /\ i = .int .i64 j /\ Fr LB BO W2 wr /\ Box wr BO 29 #[.int .i64 x.id, .int .i64 x.n, .int .i64 x.s, v0, .int .i64 x.lost, .int .i64 x.built, .int .i64 x.seq, .int .i64 x.tail, .int .i64 x.gen, .slice ad nd cd, .int .i64 x.fuse, .bool x.down, .bool x.broken] /\ (tMemS 159 109).Mine wr [v0] (ms.take j) fp0 /\ (∀ b ∈ fp0, LB <= b)) (fun i _ => nm - (intOf i).toNat)
 case atStart => exact ⟨0, _, [LB], Nat.zero_le _, rfl, Fr.refl _ _ _, XO2.out, ML2.out, by simp⟩
 case round =>
  obtain ⟨j, v0, fp0, hj, rfl, fr, xo, hm, hfp⟩ := hrel
  have hs := fr.size
  have xm := fr.box XM2.out (by omega) (by omega)
  have hb := HB2.out.trans (fr.below (M := w.heap.size) (by omega) (by omega))
  have c3 : wr.cell? ⟨w.heap.size, 3, none⟩ = some (.slice am nm cm) := xm.cell 3
  by_cases hjn : j < nm
  . rcases quads_at rfl h0 with h0' | ⟨b, off, rfl, hbl, hcs⟩
    . omega
    have hdj : ms[j]? = some (ms[j]'(by omega)) := List.getElem?_eq_getElem (by omega)
    have htk : ms.take (j + 1) = ms.take j ++ [ms[j]'(by omega)] := List.take_succ_eq_append_getElem (by omega)
    generalize ms[j]'(by omega) = d at hdj htk
    have hin := Nat.le_trans (inner_leM hdj) hwm
    obtain ⟨u0, u1, u2, u3, hv0, hv1, hv2, hv3, hrv⟩ := hcs j d hdj
    obtain ⟨a0, c0, a1, c1, a3, c3', ss, cs, f, bs, rfl, rfl, rfl, rfl, rfl, r0, r1, r3⟩ := mem_at hrv
    have pv0 := (hb.cell (p := ⟨b, off + j * 4, none⟩) hbl).trans hv0
    have pv1 := (hb.cell (p := ⟨b, off + j * 4 + 1, none⟩) hbl).trans hv1
    have pv2 := (hb.cell (p := ⟨b, off + j * 4 + 2, none⟩) hbl).trans hv2
    have pv3 := (hb.cell (p := ⟨b, off + j * 4 + 3, none⟩) hbl).trans hv3
    have R0 := hidden (r0.below hb)
    have R1 := hidden (r1.below hb)
    have R3 := hidden (r3.below hb)
    have k1 : (0 : Int) <= (j : Int) := by omega
    have k2 : (j : Int) < (nm : Int) := by omega
    have HTK := hidden htk
    have XO := hidden xo
    have XMR := hidden xm
    have FRR := hidden fr
    have HM := hidden hm
    have HFP := hidden hfp
    have HL : Hid ((ms.take j).length = j) := by unfold Hid; rw [List.length_take]; omega
    have L1 : Hid ((ms.take j).length + 1 <= maxLen) := by unfold Hid; rw [HL.out]; unfold maxLen; omega
    have L2 : Hid (((ms.take j).length + 1) * 80 <= 140737488355328) := by unfold Hid; rw [HL.out]; omega
    have mk : Hid (∀ w', Box w' BO 29 #[.int .i64 x.id, .int .i64 x.n, .int .i64 x.s, v0, .int .i64 x.lost, .int .i64 x.built, .int .i64 x.seq, .int .i64 x.tail, .int .i64 x.gen, .slice ad nd cd, .int .i64 x.fuse, .bool x.down, .bool x.broken] -> Box w' w.heap.size 29 #[.int .i64 x.id, .int .i64 x.n, .int .i64 x.s, .slice (some ⟨b, off, none⟩) nm cm, .int .i64 x.lost, .int .i64 x.built, .int .i64 x.seq, .int .i64 x.tail, .int .i64 x.gen, .slice ad nd cd, .int .i64 x.fuse, .bool x.down, .bool x.broken] -> w'.heap[b]? = wr.heap[b]? -> w'.cell? ⟨BO, 3, none⟩ = some (v0) /\ w'.cell? ⟨w.heap.size, 3, none⟩ = some (.slice (some ⟨b, off, none⟩) nm cm) /\ w'.cell? ⟨b, off + j * 4, none⟩ = some (.slice a0 ss.length c0) /\ w'.cell? ⟨b, off + j * 4 + 1, none⟩ = some (.slice a1 cs.length c1) /\ w'.cell? ⟨b, off + j * 4 + 2, none⟩ = some (.bool f) /\ w'.cell? ⟨b, off + j * 4 + 3, none⟩ = some (.slice a3 bs.length c3')) := fun w' h1 h2 h3 => ⟨h1.cell 3, h2.cell 3, (World.cell?_of_block (w := wr) h3).trans pv0, (World.cell?_of_block (w := wr) h3).trans pv1, (World.cell?_of_block (w := wr) h3).trans pv2, (World.cell?_of_block (w := wr) h3).trans pv3⟩
    have hS : wr.drew.cell? ⟨BO, 3, none⟩ = some (v0) /\ wr.drew.cell? ⟨w.heap.size, 3, none⟩ = some (.slice (some ⟨b, off, none⟩) nm cm) /\ wr.drew.cell? ⟨b, off + j * 4, none⟩ = some (.slice a0 ss.length c0) /\ wr.drew.cell? ⟨b, off + j * 4 + 1, none⟩ = some (.slice a1 cs.length c1) /\ wr.drew.cell? ⟨b, off + j * 4 + 2, none⟩ = some (.bool f) /\ wr.drew.cell? ⟨b, off + j * 4 + 3, none⟩ = some (.slice a3 bs.length c3') := mk.out wr.drew xo xm rfl
    have zb : b < wr.heap.size := by have := hb.size; omega
    have zLB : LB < wr.heap.size := by omega
    clear hcs hdj hv0 hv1 hv2 hv3 hrv htk xo xm hm hfp hb fr pv0 pv1 pv2 pv3 r0 r1 r3
    go_wp2_with fail
    refine Upto.start (S := fun w' => w'.cell? ⟨BO, 3, none⟩ = some (v0) /\ w'.cell? ⟨w.heap.size, 3, none⟩ = some (.slice (some ⟨b, off, none⟩) nm cm) /\ w'.cell? ⟨b, off + j * 4, none⟩ = some (.slice a0 ss.length c0) /\ w'.cell? ⟨b, off + j * 4 + 1, none⟩ = some (.slice a1 cs.length c1) /\ w'.cell? ⟨b, off + j * 4 + 2, none⟩ = some (.bool f) /\ w'.cell? ⟨b, off + j * 4 + 3, none⟩ = some (.slice a3 bs.length c3')) (k := 11) (by kernel_rfl) ?_
    refine Upto.t 0 hS ?_
    refine Upto.t 1 hS ?_
    refine Upto.t 2 hS ?_
    refine Upto.t 3 hS ?_
    refine Upto.t 4 hS ?_
    refine Upto.t 5 hS ?_
    refine Upto.t 6 hS ?_
    refine Upto.one (i := 7) (by kernel_rfl) rfl (fun K hK => ?_)
    go_simp
    refine (l2Copy_any _ E _ _ _ _ _ _ _ _ _ ss cs f bs R0.out.drew R1.out.drew R3.out.drew hin).mono ?_
    rintro e wc ⟨y0, y1, y3, m1, m2, rfl, o3, o0, o1, hm12, hm01, hm22, bc⟩
    have hbc' : Below wr.heap.size wr wc := (Below.refl wr.heap.size wr).drew.trans bc
    have hm01' : wr.heap.size <= m1 := hm01
    have om : (tMem 159).Own wc wr.heap.size wc.heap.size [y0, y1, .bool f, y3] (ss, cs, f, bs) := mem_own3 o0 o1 o3 (.inl (Nat.le_refl _)) (.inr (Nat.le_refl _)) (.inr hm12) ⟨by omega, by omega⟩ ⟨by omega, Nat.le_refl _⟩ ⟨Nat.le_refl _, by omega⟩
    obtain ⟨e0, g0, rfl⟩ := row_shape o0.rd
    obtain ⟨e1, g1, rfl⟩ := row_shape o1.rd
    obtain ⟨e3, g3, rfl⟩ := row_shape o3.rd
    obtain ⟨fpx, mx, rx⟩ := om.mine
    have xoc := XO.out.below hbc' (by omega)
    have xmc := XMR.out.below hbc' (by omega)
    have hS3 : wc.cell? ⟨BO, 3, none⟩ = some (v0) /\ wc.cell? ⟨w.heap.size, 3, none⟩ = some (.slice (some ⟨b, off, none⟩) nm cm) /\ wc.cell? ⟨b, off + j * 4, none⟩ = some (.slice a0 ss.length c0) /\ wc.cell? ⟨b, off + j * 4 + 1, none⟩ = some (.slice a1 cs.length c1) /\ wc.cell? ⟨b, off + j * 4 + 2, none⟩ = some (.bool f) /\ wc.cell? ⟨b, off + j * 4 + 3, none⟩ = some (.slice a3 bs.length c3') := mk.out wc xoc xmc (hbc'.block b zb)
    have bB := new_below wc (.cells #[.slice e0 ss.length g0, .slice e1 cs.length g1, .bool f, .slice e3 bs.length g3] 109)
    have zc := hbc'.size
    have hS4 : (wc.alloc (.cells #[.slice e0 ss.length g0, .slice e1 cs.length g1, .bool f, .slice e3 bs.length g3] 109)).cell? ⟨BO, 3, none⟩ = some (v0) /\ (wc.alloc (.cells #[.slice e0 ss.length g0, .slice e1 cs.length g1, .bool f, .slice e3 bs.length g3] 109)).cell? ⟨w.heap.size, 3, none⟩ = some (.slice (some ⟨b, off, none⟩) nm cm) /\ (wc.alloc (.cells #[.slice e0 ss.length g0, .slice e1 cs.length g1, .bool f, .slice e3 bs.length g3] 109)).cell? ⟨b, off + j * 4, none⟩ = some (.slice a0 ss.length c0) /\ (wc.alloc (.cells #[.slice e0 ss.length g0, .slice e1 cs.length g1, .bool f, .slice e3 bs.length g3] 109)).cell? ⟨b, off + j * 4 + 1, none⟩ = some (.slice a1 cs.length c1) /\ (wc.alloc (.cells #[.slice e0 ss.length g0, .slice e1 cs.length g1, .bool f, .slice e3 bs.length g3] 109)).cell? ⟨b, off + j * 4 + 2, none⟩ = some (.bool f) /\ (wc.alloc (.cells #[.slice e0 ss.length g0, .slice e1 cs.length g1, .bool f, .slice e3 bs.length g3] 109)).cell? ⟨b, off + j * 4 + 3, none⟩ = some (.slice a3 bs.length c3') := mk.out _ (xoc.alloc _) (xmc.alloc _) ((bB.block b (by omega)).trans (hbc'.block b zb))
    have XOC := hidden xoc
    have XMC := hidden xmc
    have MX := hidden mx
    have RX := hidden rx
    have HBC := hidden hbc'
    clear xoc xmc mx rx hbc' bc om o0 o1 o3 hm01 hm01' hm12 hm22 bB R0 R1 R3
    go_wp2_with fail
    refine hK.out _ _ (fun _ => hS3) ?_
    clear hK K
    refine Upto.one (i := 8) (by kernel_rfl) rfl (fun K hK => ?_)
    go_simp
    refine hK.out _ _ (fun _ => hS4) ?_
    clear hK K
    refine Upto.one (i := 9) (by kernel_rfl) rfl (fun K hK => ?_)
    refine step_appT (tMem 159) (by rfl) _ _ 26 (by rfl) 109 i4 (.agg #[.slice none 0 0, .slice none 0 0, .bool false, .slice none 0 0]) 80 Tryz.underlying26 hi4 hz0 hz1 hz2 rfl (by decide) v0 (ms.take j) fp0 (by rfl) ?_ ⟨wc.heap.size, 0, none⟩ 1 [.slice e0 ss.length g0, .slice e1 cs.length g1, .bool f, .slice e3 bs.length g3] (ss, cs, f, bs) fpx (by rfl) ?_ ?_ ?_ ?_ L1.out L2.out ?_
    . exact (HM.out.below HBC.out).alloc _
    . exact MX.out.alloc _
    . intro b hb hb'
      have h1 := HM.out.lt b hb
      have h2 := RX.out b hb'
      omega
    . exact news_new _ _ _
    . intro u hu
      simp at hu
      rcases hu with hu | hu | hu | hu <;> (rw [hu]; rfl)
    intro g cap wA fpA m1 m2 m3
    rw [HL.out] at m1 ⊢
    rw [← HTK.out] at m1
    have ya := (XOC.out.alloc (.cells #[.slice e0 ss.length g0, .slice e1 cs.length g1, .bool f, .slice e3 bs.length g3] 109)).turned m3 (fun hm => by have := HFP.out _ hm; omega)
    have ym := (XMC.out.alloc (.cells #[.slice e0 ss.length g0, .slice e1 cs.length g1, .bool f, .slice e3 bs.length g3] 109)).turned m3 (fun hm => by have := HFP.out _ hm; omega)
    have zB : (wc.alloc (.cells #[.slice e0 ss.length g0, .slice e1 cs.length g1, .bool f, .slice e3 bs.length g3] 109)).heap.size = wc.heap.size + 1 := by simp
    have zBb : b < (wc.alloc (.cells #[.slice e0 ss.length g0, .slice e1 cs.length g1, .bool f, .slice e3 bs.length g3] 109)).heap.size := by omega
    have hS5 : wA.cell? ⟨BO, 3, none⟩ = some (v0) /\ wA.cell? ⟨w.heap.size, 3, none⟩ = some (.slice (some ⟨b, off, none⟩) nm cm) /\ wA.cell? ⟨b, off + j * 4, none⟩ = some (.slice a0 ss.length c0) /\ wA.cell? ⟨b, off + j * 4 + 1, none⟩ = some (.slice a1 cs.length c1) /\ wA.cell? ⟨b, off + j * 4 + 2, none⟩ = some (.bool f) /\ wA.cell? ⟨b, off + j * 4 + 3, none⟩ = some (.slice a3 bs.length c3') := mk.out wA ya ym ((m3.block b zBb (fun hm => by have := HFP.out _ hm; omega)).trans (((new_below wc (.cells #[.slice e0 ss.length g0, .slice e1 cs.length g1, .bool f, .slice e3 bs.length g3] 109)).block b (by omega)).trans (HBC.out.block b zb)))
    have r0 := hS5.1
    have fz := ya.frozen 3
    have YA := hidden ya
    have M1 := hidden m1
    have M2 := hidden m2
    have M3 := hidden m3
    clear ya ym m1 m2 m3 zB zBb
    refine hK.out _ _ (fun _ => hS5) ?_
    clear hK K
    simp only [Act.put, List.setIfInBounds_toArray, List.set_cons_zero, List.set_cons_succ]
    refine Upto.t 10 hS5 ?_
    refine Upto.one (i := 11) (by kernel_rfl) rfl (fun K hK => ?_)
    go_simp
    refine hK.out _ _ (fun h => absurd rfl h) ?_
    clear hK K
    refine Upto.done (by kernel_rfl) ?_ _
    have HFA := hidden (round_fp (N := LB) (by omega) HBC.out HFP.out RX.out M2.out)
    have FRA := hidden (Fr.round FRR.out (by omega) HBC.out _ M3.out HFP.out 3 (.slice (some ⟨g, 0, none⟩) (j + 1) cap))
    have MA := hidden (M1.out.setCell (g := BO) (j := 3) (fun hm => by have := HFA.out _ hm; omega) (.slice (some ⟨g, 0, none⟩) (j + 1) cap))
    have YA' := hidden (YA.out.set 3 (.slice (some ⟨g, 0, none⟩) (j + 1) cap))
    clear hS hS3 hS4 hS5 r0 YA M1 M2 M3 XOC MX RX HBC HFP HM FRR XO XMR XMC mk
    go_wp2
    go_roundw
    case rel => exact ⟨j + 1, _, fpA, by omega, by go_num, FRA.out, YA'.out, MA.out, HFA.out⟩
    case measure => simp [intOf]; omega
  . have ej : nm = j := by omega
    subst ej
    rw [List.take_of_length_le (by omega)] at hm
    have hlt := hm.lt
    obtain ⟨eM, gM, hvM⟩ := row_shape hm.rd
    rw [hl0] at hvM
    subst hvM
    have KM := hm.own (lo := LB) (hi := wr.heap.size) (fun b hb => ⟨hfp b hb, hlt b hb⟩)
    have xr := fr.box XR2.out (by omega) (by omega)
    have b3 : But BO (BO + 1) (wr.alloc (.cells #[] 86)) ((wr.alloc (.cells #[] 86)).setCell ⟨BO, 9, none⟩ (.slice (some ⟨wr.heap.size, 0, none⟩) 0 0)) := But.setCell (by omega) (by omega) _
    have xm3 : Box ((wr.alloc (.cells #[] 86)).setCell ⟨BO, 9, none⟩ (.slice (some ⟨wr.heap.size, 0, none⟩) 0 0)) w.heap.size 29 #[.int .i64 x.id, .int .i64 x.n, .int .i64 x.s, .slice am nm cm, .int .i64 x.lost, .int .i64 x.built, .int .i64 x.seq, .int .i64 x.tail, .int .i64 x.gen, .slice ad nd cd, .int .i64 x.fuse, .bool x.down, .bool x.broken] := (xm.alloc _).other (by omega) 9 _
    have xr3 : Box ((wr.alloc (.cells #[] 86)).setCell ⟨BO, 9, none⟩ (.slice (some ⟨wr.heap.size, 0, none⟩) 0 0)) BR 29 #[.int .i64 0, .int .i64 0, .int .i64 0, .slice none 0 0, .int .i64 0, .int .i64 0, .int .i64 0, .int .i64 0, .int .i64 0, .slice none 0 0, .int .i64 0, .bool false, .bool false] := (xr.alloc _).other (by omega) 9 _
    have xo3 : Box ((wr.alloc (.cells #[] 86)).setCell ⟨BO, 9, none⟩ (.slice (some ⟨wr.heap.size, 0, none⟩) 0 0)) BO 29 #[.int .i64 x.id, .int .i64 x.n, .int .i64 x.s, .slice eM nm gM, .int .i64 x.lost, .int .i64 x.built, .int .i64 x.seq, .int .i64 x.tail, .int .i64 x.gen, .slice (some ⟨wr.heap.size, 0, none⟩) 0 0, .int .i64 x.fuse, .bool x.down, .bool x.broken] := (xo.alloc _).set 9 (.slice (some ⟨wr.heap.size, 0, none⟩) 0 0)
    have ml3 : (tWrS 86).Mine ((wr.alloc (.cells #[] 86)).setCell ⟨BO, 9, none⟩ (.slice (some ⟨wr.heap.size, 0, none⟩) 0 0)) [.slice (some ⟨wr.heap.size, 0, none⟩) 0 0] [] [wr.heap.size] := (lit0_mine (t := tWr) (E := 86) wr).setCell (by simp; omega) _
    have km3 := (KM.below (new_below wr (.cells #[] 86))).but b3 (.inr (by omega))
    have hB3 : Below w.heap.size w ((wr.alloc (.cells #[] 86)).setCell ⟨BO, 9, none⟩ (.slice (some ⟨wr.heap.size, 0, none⟩) 0 0)) := (hb.alloc hb.size _).setCell (show w.heap.size <= BO by omega) _
    have z3 : wr.heap.size < ((wr.alloc (.cells #[] 86)).setCell ⟨BO, 9, none⟩ (.slice (some ⟨wr.heap.size, 0, none⟩) 0 0)).heap.size := by simp [World.setCell]
    have zL3 : LB < wr.heap.size := by omega
    have co9 : (wr.alloc (.cells #[] 86)).cell? ⟨BO, 9, none⟩ = some (.slice ad nd cd) := (xo.alloc _).cell 9
    have fo9 := (xo.alloc (.cells #[] 86)).frozen 9
    clear fr xo xm hm hfp hlt KM xr b3 hb hs hj
    go_wp2
    generalize (wr.alloc (.cells #[] 86)).setCell ⟨BO, 9, none⟩ (.slice (some ⟨wr.heap.size, 0, none⟩) 0 0) = W3 at xm3 xr3 xo3 ml3 km3 hB3 z3 ⊢
    obtain ⟨LE, hLE⟩ : ∃ LE, wr.heap.size = LE := ⟨_, rfl⟩
    rw [hLE] at xo3 ml3 km3 z3 zL3 ⊢
    clear hLE
    have XM3 := hidden xm3
    have XR3 := hidden xr3
    have XO3 := hidden xo3
    have ML3 := hidden ml3
    have KM3 := hidden km3
    have HB3 := hidden hB3
    clear xm3 xr3 xo3 ml3 km3 hB3 XM2 XR2 XO2 ML2 HB2 hz
    go_loopw [5] (fun i wr => ∃ (j : Nat) (v1 : Value) (fp1 : List Nat), j <= nd /\ i = .int .i64 j /\ Fr LE BO W3 wr /\ Box wr BO 29 #[.int .i64 x.id, .int .i64 x.n, .int .i64 x.s, .slice eM nm gM, .int .i64 x.lost, .int .i64 x.built, .int .i64 x.seq, .int .i64 x.tail, .int .i64 x.gen, v1, .int .i64 x.fuse, .bool x.down, .bool x.broken] /\ (tWrS 86).Mine wr [v1] (ds.take j) fp1 /\ (∀ b ∈ fp1, LE <= b)) (fun i _ => nd - (intOf i).toNat)
    case atStart => exact ⟨0, _, [LE], Nat.zero_le _, rfl, Fr.refl _ _ _, XO3.out, ML3.out, by simp⟩
    case round =>
     obtain ⟨j, v1, fp1, hj, rfl, fr, xo, hm, hfp⟩ := hrel
     have hs := fr.size
     have xm := fr.box XM3.out (by omega) (by omega)
     have hb := HB3.out.trans (fr.below (M := w.heap.size) (by omega) (by omega))
     have c9 : wr.cell? ⟨w.heap.size, 9, none⟩ = some (.slice ad nd cd) := xm.cell 9
     by_cases hjn : j < nd
     . rcases pairs_at rfl h1 with h0' | ⟨b, off, rfl, hbl, hcs⟩
       . omega
       have hdj : ds[j]? = some (ds[j]'(by omega)) := List.getElem?_eq_getElem (by omega)
       have htk : ds.take (j + 1) = ds.take j ++ [ds[j]'(by omega)] := List.take_succ_eq_append_getElem (by omega)
       generalize ds[j]'(by omega) = d at hdj htk
       have hil := inner_le' hdj
       obtain ⟨u0, u1, hv0, hv1, hrv⟩ := hcs j d hdj
       obtain ⟨rfl, hrv'⟩ := wr_rd hrv
       obtain ⟨av, cv, rfl⟩ := row_shape hrv'
       have pv0 := (hb.cell (p := ⟨b, off + j * 2, none⟩) hbl).trans hv0
       have pv1 := (hb.cell (p := ⟨b, off + j * 2 + 1, none⟩) hbl).trans hv1
       obtain ⟨x0, x1⟩ := d
       simp only at pv0 pv1 hrv' hil
       have HX := hidden (hrv'.below hb)
       have k1 : (0 : Int) <= (j : Int) := by omega
       have k2 : (j : Int) < (nd : Int) := by omega
       have HTK := hidden htk
       have XO := hidden xo
       have XMR := hidden xm
       have FRR := hidden fr
       have HM := hidden hm
       have HFP := hidden hfp
       have HL : Hid ((ds.take j).length = j) := by unfold Hid; rw [List.length_take]; omega
       have L1 : Hid ((ds.take j).length + 1 <= maxLen) := by unfold Hid; rw [HL.out]; unfold maxLen; omega
       have L2 : Hid (((ds.take j).length + 1) * 32 <= 140737488355328) := by unfold Hid; rw [HL.out]; omega
       have mk : Hid (∀ w', Box w' BO 29 #[.int .i64 x.id, .int .i64 x.n, .int .i64 x.s, .slice eM nm gM, .int .i64 x.lost, .int .i64 x.built, .int .i64 x.seq, .int .i64 x.tail, .int .i64 x.gen, v1, .int .i64 x.fuse, .bool x.down, .bool x.broken] -> Box w' w.heap.size 29 #[.int .i64 x.id, .int .i64 x.n, .int .i64 x.s, .slice am nm cm, .int .i64 x.lost, .int .i64 x.built, .int .i64 x.seq, .int .i64 x.tail, .int .i64 x.gen, .slice (some ⟨b, off, none⟩) nd cd, .int .i64 x.fuse, .bool x.down, .bool x.broken] -> w'.heap[b]? = wr.heap[b]? -> w'.cell? ⟨BO, 9, none⟩ = some (v1) /\ w'.cell? ⟨w.heap.size, 9, none⟩ = some (.slice (some ⟨b, off, none⟩) nd cd) /\ w'.cell? ⟨b, off + j * 2, none⟩ = some (.int .i64 x0) /\ w'.cell? ⟨b, off + j * 2 + 1, none⟩ = some (.slice av x1.length cv)) := fun w' h1 h2 h3 => ⟨h1.cell 9, h2.cell 9, (World.cell?_of_block (w := wr) h3).trans pv0, (World.cell?_of_block (w := wr) h3).trans pv1⟩
       have bA := new_below wr (.cells #[] 3)
       have hS : wr.drew.cell? ⟨BO, 9, none⟩ = some (v1) /\ wr.drew.cell? ⟨w.heap.size, 9, none⟩ = some (.slice (some ⟨b, off, none⟩) nd cd) /\ wr.drew.cell? ⟨b, off + j * 2, none⟩ = some (.int .i64 x0) /\ wr.drew.cell? ⟨b, off + j * 2 + 1, none⟩ = some (.slice av x1.length cv) := mk.out wr.drew xo xm rfl
       have zb : b < wr.heap.size := by have := hb.size; omega
       have zLE : LE < wr.heap.size := by omega
       have hS2 : (wr.alloc (.cells #[] 3)).drew.cell? ⟨BO, 9, none⟩ = some (v1) /\ (wr.alloc (.cells #[] 3)).drew.cell? ⟨w.heap.size, 9, none⟩ = some (.slice (some ⟨b, off, none⟩) nd cd) /\ (wr.alloc (.cells #[] 3)).drew.cell? ⟨b, off + j * 2, none⟩ = some (.int .i64 x0) /\ (wr.alloc (.cells #[] 3)).drew.cell? ⟨b, off + j * 2 + 1, none⟩ = some (.slice av x1.length cv) := mk.out (wr.alloc (.cells #[] 3)).drew (xo.alloc _) (xm.alloc _) (bA.block b zb)
       have HG : Hid ((wr.alloc (.cells #[] 3)).drew.heap[wr.heap.size]? = some (.cells #[] 3 (0, 0))) := Box.new wr 3 #[]
       have RD : Hid (tIntS.Rd (wr.alloc (.cells #[] 3)).drew [.slice av x1.length cv] x1) := (HX.out.below bA).drew
       have BA := hidden bA
       clear hcs hdj hv0 hv1 hrv hrv' htk xo xm hm hfp hb fr pv0 pv1 bA
       go_wp2_with fail
       refine Upto.start (S := fun w' => w'.cell? ⟨BO, 9, none⟩ = some (v1) /\ w'.cell? ⟨w.heap.size, 9, none⟩ = some (.slice (some ⟨b, off, none⟩) nd cd) /\ w'.cell? ⟨b, off + j * 2, none⟩ = some (.int .i64 x0) /\ w'.cell? ⟨b, off + j * 2 + 1, none⟩ = some (.slice av x1.length cv)) (k := 20) (by kernel_rfl) ?_
       refine Upto.t 0 hS ?_
       refine Upto.t 1 hS ?_
       refine Upto.t 2 hS ?_
       refine Upto.t 3 hS ?_
       refine Upto.t 4 hS ?_
       refine Upto.t 5 hS ?_
       refine Upto.t 6 hS ?_
       refine Upto.t 7 hS ?_
       refine Upto.t 9 hS ?_
       refine Upto.t 10 hS ?_
       refine Upto.t 11 hS ?_
       refine Upto.t 12 hS ?_
       refine Upto.t 13 hS ?_
       refine Upto.t 14 hS ?_
       refine Upto.one (i := 8) (by kernel_rfl) rfl (fun K hK => ?_)
       go_simp
       refine hK.out _ _ (fun _ => hS2) ?_
       clear hK K
       refine Upto.one (i := 15) (by kernel_rfl) rfl (fun K hK => ?_)
       refine step_copy (by rfl) _ _ 30 (by rfl) i3 Tryz.underlying30 hi3 hx0 hx1 hx2 wr.heap.size (by rfl) HG.out av x1.length cv x1 (by rfl) RD.out (by omega) ?_
       intro ac cc wc fpx mx rx tx
       have tx' : Turned [wr.heap.size] (wr.alloc (.cells #[] 3)) wc := Turned.undrew tx
       have zA : (wr.alloc (.cells #[] 3)).heap.size = wr.heap.size + 1 := by simp
       have zd : (wr.alloc (.cells #[] 3)).drew.heap.size = (wr.alloc (.cells #[] 3)).heap.size := rfl
       have hbc' : Below wr.heap.size wr wc := BA.out.trans (tx'.below (N := wr.heap.size) (by omega) (by simp))
       have xoc := XO.out.below hbc' (by omega)
       have xmc := XMR.out.below hbc' (by omega)
       have hS3 : wc.cell? ⟨BO, 9, none⟩ = some (v1) /\ wc.cell? ⟨w.heap.size, 9, none⟩ = some (.slice (some ⟨b, off, none⟩) nd cd) /\ wc.cell? ⟨b, off + j * 2, none⟩ = some (.int .i64 x0) /\ wc.cell? ⟨b, off + j * 2 + 1, none⟩ = some (.slice av x1.length cv) := mk.out wc xoc xmc (hbc'.block b zb)
       have bB := new_below wc (.cells #[.int .i64 x0, .slice ac x1.length cc] 86)
       have zc := hbc'.size
       have hS4 : (wc.alloc (.cells #[.int .i64 x0, .slice ac x1.length cc] 86)).cell? ⟨BO, 9, none⟩ = some (v1) /\ (wc.alloc (.cells #[.int .i64 x0, .slice ac x1.length cc] 86)).cell? ⟨w.heap.size, 9, none⟩ = some (.slice (some ⟨b, off, none⟩) nd cd) /\ (wc.alloc (.cells #[.int .i64 x0, .slice ac x1.length cc] 86)).cell? ⟨b, off + j * 2, none⟩ = some (.int .i64 x0) /\ (wc.alloc (.cells #[.int .i64 x0, .slice ac x1.length cc] 86)).cell? ⟨b, off + j * 2 + 1, none⟩ = some (.slice av x1.length cv) := mk.out _ (xoc.alloc _) (xmc.alloc _) ((bB.block b (by omega)).trans (hbc'.block b zb))
       have RX : Hid (∀ b ∈ fpx, wr.heap.size <= b /\ b < wc.heap.size) := fun b hb => by have := rx b hb; omega
       have XOC := hidden xoc
       have XMC := hidden xmc
       have MX := hidden mx
       have HBC := hidden hbc'
       clear xoc xmc mx rx tx tx' hbc' bB zA zd
       refine hK.out _ _ (fun _ => hS3) ?_
       clear hK K
       simp only [Act.put, List.setIfInBounds_toArray, List.set_cons_zero, List.set_cons_succ]
       refine Upto.t 16 hS3 ?_
       refine Upto.one (i := 17) (by kernel_rfl) rfl (fun K hK => ?_)
       go_simp
       refine hK.out _ _ (fun _ => hS4) ?_
       clear hK K
       refine Upto.one (i := 18) (by kernel_rfl) rfl (fun K hK => ?_)
       refine step_appT tWr (by rfl) _ _ 27 (by rfl) 86 i1 (.agg #[.int .i64 0, .slice none 0 0]) 32 Tryz.underlying27 hi1 hy0 hy1 hy2 rfl Nat.zero_lt_two v1 (ds.take j) fp1 (by rfl) ?_ ⟨wc.heap.size, 0, none⟩ 1 [.int .i64 x0, .slice ac x1.length cc] (x0, x1) fpx (by rfl) ?_ ?_ ?_ ?_ L1.out L2.out ?_
       . exact (HM.out.below HBC.out).alloc _
       . exact (wr_mine x0 MX.out).alloc _
       . intro b hb hb'
         have h1 := HM.out.lt b hb
         have h2 := RX.out b hb'
         omega
       . exact news_new _ _ _
       . intro u hu
         simp at hu
         rcases hu with hu | hu <;> (rw [hu]; rfl)
       intro g cap wA fpA m1 m2 m3
       rw [HL.out] at m1 ⊢
       rw [← HTK.out] at m1
       have ya := (XOC.out.alloc (.cells #[.int .i64 x0, .slice ac x1.length cc] 86)).turned m3 (fun hm => by have := HFP.out _ hm; omega)
       have ym := (XMC.out.alloc (.cells #[.int .i64 x0, .slice ac x1.length cc] 86)).turned m3 (fun hm => by have := HFP.out _ hm; omega)
       have zB : (wc.alloc (.cells #[.int .i64 x0, .slice ac x1.length cc] 86)).heap.size = wc.heap.size + 1 := by simp
       have zBb : b < (wc.alloc (.cells #[.int .i64 x0, .slice ac x1.length cc] 86)).heap.size := by omega
       have hS5 : wA.cell? ⟨BO, 9, none⟩ = some (v1) /\ wA.cell? ⟨w.heap.size, 9, none⟩ = some (.slice (some ⟨b, off, none⟩) nd cd) /\ wA.cell? ⟨b, off + j * 2, none⟩ = some (.int .i64 x0) /\ wA.cell? ⟨b, off + j * 2 + 1, none⟩ = some (.slice av x1.length cv) := mk.out wA ya ym ((m3.block b zBb (fun hm => by have := HFP.out _ hm; omega)).trans (((new_below wc (.cells #[.int .i64 x0, .slice ac x1.length cc] 86)).block b (by omega)).trans (HBC.out.block b zb)))
       have r0 := hS5.1
       have fz := ya.frozen 9
       have YA := hidden ya
       have M1 := hidden m1
       have M2 := hidden m2
       have M3 := hidden m3
       clear ya ym m1 m2 m3 zB zBb
       refine hK.out _ _ (fun _ => hS5) ?_
       clear hK K
       simp only [Act.put, List.setIfInBounds_toArray, List.set_cons_zero, List.set_cons_succ]
       refine Upto.t 19 hS5 ?_
       refine Upto.one (i := 20) (by kernel_rfl) rfl (fun K hK => ?_)
       go_simp
       refine hK.out _ _ (fun h => absurd rfl h) ?_
       clear hK K
       refine Upto.done (by kernel_rfl) ?_ _
       have HFA := hidden (round_fp (N := LE) (by omega) HBC.out HFP.out RX.out M2.out)
       have FRA := hidden (Fr.round FRR.out (by omega) HBC.out _ M3.out HFP.out 9 (.slice (some ⟨g, 0, none⟩) (j + 1) cap))
       have MA := hidden (M1.out.setCell (g := BO) (j := 9) (fun hm => by have := HFA.out _ hm; omega) (.slice (some ⟨g, 0, none⟩) (j + 1) cap))
       have YA' := hidden (YA.out.set 9 (.slice (some ⟨g, 0, none⟩) (j + 1) cap))
       clear hS hS2 hS3 hS4 hS5 BA HG RD HX r0 YA M1 M2 M3 XOC MX RX HBC HFP HM FRR XO XMR XMC mk
       go_wp2
       go_roundw
       case rel => exact ⟨j + 1, _, fpA, by omega, by go_num, FRA.out, YA'.out, MA.out, HFA.out⟩
       case measure => simp [intOf]; omega
     . have ej : nd = j := by omega
       subst ej
       rw [List.take_of_length_le (by omega)] at hm
       have hlt := hm.lt
       obtain ⟨eD, gD, hvD⟩ := row_shape hm.rd
       rw [hl1] at hvD
       subst hvD
       have K1 := hm.own (lo := LE) (hi := wr.heap.size) (fun b hb => ⟨hfp b hb, hlt b hb⟩)
       have K0 := fr.own KM3.out (Nat.le_refl _) (.inr (by omega))
       have xr := fr.box XR3.out (by omega) (by omega)
       have hbt := puts_but BR [(0, .int .i64 x.id), (1, .int .i64 x.n), (2, .int .i64 x.s), (3, .slice eM nm gM), (4, .int .i64 x.lost), (5, .int .i64 x.built), (6, .int .i64 x.seq), (7, .int .i64 x.tail), (8, .int .i64 x.gen), (9, .slice eD nd gD), (10, .int .i64 x.fuse), (11, .bool x.down), (12, .bool x.broken)] wr
       have H0 := K0.but hbt (.inr (by omega))
       have H1 := K1.but hbt (.inr (by omega))
       have HBB := Below.andBut hb hbt (by omega)
       have hsz := hbt.size
       have H0w := hidden (H0.widen (lo' := w.heap.size) (hi' := LE) (by omega) (Nat.le_refl _))
       have H1w := hidden (H1.widen (lo' := LE) (Nat.le_refl _) hsz)
       have HBw := hidden HBB
       have HSZ : Hid (LE <= (puts wr BR [(0, .int .i64 x.id), (1, .int .i64 x.n), (2, .int .i64 x.s), (3, .slice eM nm gM), (4, .int .i64 x.lost), (5, .int .i64 x.built), (6, .int .i64 x.seq), (7, .int .i64 x.tail), (8, .int .i64 x.gen), (9, .slice eD nd gD), (10, .int .i64 x.fuse), (11, .bool x.down), (12, .bool x.broken)]).heap.size) := by unfold Hid; omega
       simp only [puts] at H0w H1w HBw HSZ
       obtain ⟨p0, p1, p2, p3, p4, p5, p6, p7, p8, p9, p10, p11, p12⟩ := xr.cells13
       have fz := xr.frozen
       obtain ⟨r0, r1, r2, r3, r4, r5, r6, r7, r8, r9, r10, r11, r12⟩ := xo.cells13
       have hLw : w.heap.size <= LE := by omega
       clear fr xo xm hb hm hfp hlt xr K0 K1 hbt H0 H1 HBB hsz hj hs
       go_wp2
       refine bodyPost_ret (v := .agg #[.int .i64 x.id, .int .i64 x.n, .int .i64 x.s, .slice eM nm gM, .int .i64 x.lost, .int .i64 x.built, .int .i64 x.seq, .int .i64 x.tail, .int .i64 x.gen, .slice eD nd gD, .int .i64 x.fuse, .bool x.down, .bool x.broken]) (by simp [results, Tryz.results56, go_sem, p0, p1, p2, p3, p4, p5, p6, p7, p8, p9, p10, p11, p12]) rfl ?_
       exact ⟨_, _, _, _, LE, rfl, H0w.out, H1w.out, hLw, HSZ.out, HBw.out⟩

def AllSt (w : World) (B : Nat) (fm fd : List Nat) (q0 : ArrN × List MemD) (ds : List EntD) (n : Nat) (wr : World) : Prop :=
 ∃ (q : ArrN × List MemD) (es : List EntD) (fm' fd' : List Nat), es.length <= n /\ ArrAt wr B q.1 q.2 es fm' fd' /\ allR q es = allR q0 ds /\ wtMemS q.2 <= max (wtMemS q0.2) 10005 /\ wtWrS es <= wtWrS ds /\ Turned (B :: (fm ++ fd)) w wr /\ ∀ b, b ∈ fm' ∨ b ∈ fd' -> b ∈ fm ∨ b ∈ fd ∨ w.heap.size <= b
theorem fl8_next {w wr w' : World} {B : Nat} {fm fd fm' fd' : List Nat} {y : ArrN} {ns : List MemD} {es : List EntD} (hT : Turned (B :: (fm ++ fd)) w wr) (hN : ∀ b, b ∈ fm' ∨ b ∈ fd' -> b ∈ fm ∨ b ∈ fd ∨ w.heap.size <= b) (h : Fl8 wr B fm' fd' y ns es w') : Fl8 w B fm fd y ns es w' := by
 obtain ⟨fm2, fd2, hA, hT2, hN2⟩ := h
 have hs := hT.size
 refine ⟨fm2, fd2, hA, ⟨hT2.os.trans hT.os, hT2.tape.trans hT.tape, hT2.output.trans hT.output, Nat.le_trans hT.size hT2.size, fun k hk hf => ?_⟩, fun b hb => ?_⟩
 . rw [hT2.block k (by omega) (fun hm => ?_), hT.block k hk hf]
   simp only [List.mem_cons, List.mem_append] at hm hf
   rcases hm with h | h
   . exact hf (.inl h)
   . rcases hN k h with h | h | h
     . exact hf (.inr (.inl h))
     . exact hf (.inr (.inr h))
     . omega
 . rcases hN2 b hb with h | h | h
   . exact hN b (.inl h)
   . exact hN b (.inr h)
   . exact .inr (.inr (by omega))

theorem l8All_any (w : World) (B : Nat) (x : ArrN) (ms : List MemD) (ds : List EntD) (fm fd : List Nat) (h : ArrAt w B x ms ds fm fd) (hw : wtArr ms ds <= 1900000) :
 Calls Tryz.prog 88 #[.pointer (some ⟨B, 0, none⟩)] w fun e w' => e = .returned (.int .i64 (allR (x, ms) ds).2.2) /\ Fl8 w B fm fd (allR (x, ms) ds).1.1 (allR (x, ms) ds).1.2 (allR (x, ms) ds).2.1 w' := by
 have HA := hidden h
 have hlB := h.lt
 unfold wtArr at hw
 clear h
 go_enter Tryz.func88, Tryz.ntmps88
 go_wp2
 go_loopg [3] ds.length (fun kx _ wr => AllSt w B fm fd (x, ms) ds kx wr)
 case atStart => exact ⟨(x, ms), ds, fm, fd, Nat.le_refl _, HA.out, rfl, Nat.le_max_left _ _, Nat.le_refl _, Turned.refl _ _, fun _ h => h.elim .inl (fun h => .inr (.inl h))⟩
 case round =>
  obtain ⟨q, es, fm1, fd1, hk, hA, hR, hw1, hw2, hT, hN⟩ := hrel
  have hw3 : wtArr q.2 es <= 2097152 := by unfold wtArr; have h9 : wtMemS q.2 <= max (wtMemS ms) 10005 := hw1; omega
  have HAW := hidden hA
  obtain ⟨bm, bd, cm, cd, X, hm, hd, hr, r1, r2⟩ := hA
  have k9 : wr.cell? ⟨B, 9, none⟩ = some (.slice bd es.length cd) := by unfold arrC at X; exact X.cells13.2.2.2.2.2.2.2.2.2.1
  have hcd := (row_length hd.rd).2
  have HT := hidden hT
  have HN := hidden hN
  have HR := hidden hR
  have HW1 := hidden hw1
  have HW2 := hidden hw2
  cases es with
  | nil =>
   have HF : Hid (Fl8 w B fm fd (allR (x, ms) ds).1.1 (allR (x, ms) ds).1.2 (allR (x, ms) ds).2.1 wr /\ (allR (x, ms) ds).2.2 = 0) := by
    unfold Hid
    rw [← hR]
    exact ⟨⟨fm1, fd1, HAW.out, hT, hN⟩, rfl⟩
   clear X hm hd hr r1 r2 hT hN hR HAW
   rw [List.length_nil] at k9 hcd
   go_wp2
   go_ret
   exact ⟨ret_int HF.out.2.symm, HF.out.1⟩
  | cons e es =>
   obtain ⟨g, rfl⟩ := row_head hd (by simp)
   obtain ⟨fps, e1, e2, e3, e4⟩ := ents_open hd
   obtain ⟨f, g', av, cv, hf, hg', hgl, hgd, hgf, v0, v1, hmd⟩ := e4 0 e rfl
   simp only [Option.some.injEq, Addr.mk.injEq, and_true] at hg'
   subst hg'
   have v0' : wr.cell? ⟨g, 0, none⟩ = some (.int .i64 e.1) := by simpa using v0
   have HLF := hidden (l8Flush_any wr B q.1 q.2 (e :: es) fm1 fd1 HAW.out hw3 e.1)
   have HST := hidden (fun h0 => (allR_step (q := q) (e := e) (es := es) h0).symm.trans hR)
   have HSP := hidden (fun h0 => (allR_stop (q := q) (e := e) (es := es) h0).symm.trans hR)
   have HFD := hidden (fl_head (q := q) (e := e) (es := es))
   have HWT := hidden (fl8A_wt q (e :: es) e.1)
   have HDR : Hid (wtWrS es <= wtWrS (e :: es)) := wtWrS_drop1 (e :: es) 0
   obtain ⟨y, ys⟩ := e
   simp only at v0'
   generalize hEL : (((y, ys) : EntD) :: es).length = el at k9 hcd hk
   have hel : 0 < el /\ es.length < el /\ es.length + 1 <= el := by rw [← hEL]; simp
   have k1 : (0 : Int) < (el : Int) := by omega
   have k2 : (el : Int) > 0 := by omega
   clear X hm hd hr r1 r2 hT hN hR HAW e1 e2 e3 e4 hf hmd v0 v1 hw1 hw2 hEL
   go_wp2_with fail
   refine HLF.out.mono ?_
   rintro e w2 ⟨rfl, hF⟩
   rw [HFD.out] at hF
   generalize hfc : fl8C q.1 q.2 (((y, ys) : EntD) :: es) y = fc at HST HSP HFD hF ⊢
   have HFC : Hid (fl8C q.1 q.2 (((y, ys) : EntD) :: es) ((y, ys) : EntD).1 = fc) := hfc
   clear hfc
   by_cases h0 : fc = 0
   . subst h0
     rw [if_pos rfl] at hF
     have HF := hidden (fl8_next HT.out HN.out hF)
     have HR2 := hidden (HST.out rfl)
     clear hF
     go_wp2
     go_roundg es.length
     case measure => omega
     case rel =>
      obtain ⟨fm2, fd2, hA2, hT2, hN2⟩ := HF.out
      refine ⟨fl8A q.1 q.2 (((y, ys) : EntD) :: es) y, es, fm2, fd2, Nat.le_refl _, hA2, HR2.out, ?_, Nat.le_trans HDR.out HW2.out, hT2, hN2⟩
      have h1 := HWT.out
      have h2 : wtMemS q.2 <= max (wtMemS ms) 10005 := HW1.out
      have h3 : wtMemS (fl8A q.1 q.2 (((y, ys) : EntD) :: es) y).2 <= max (wtMemS q.2) 10005 := h1
      show wtMemS (fl8A q.1 q.2 (((y, ys) : EntD) :: es) y).2 <= max (wtMemS ms) 10005
      omega
   . rw [if_neg h0] at hF
     have HF : Hid (Fl8 w B fm fd (allR (x, ms) ds).1.1 (allR (x, ms) ds).1.2 (allR (x, ms) ds).2.1 w2 /\ (allR (x, ms) ds).2.2 = fc) := by
      unfold Hid
      rw [← HSP.out h0]
      exact ⟨fl8_next HT.out HN.out hF, rfl⟩
     have e0 : (fc != 0) = true := by simpa using h0
     clear hF h0
     go_wp2
     go_ret
     exact ⟨ret_int HF.out.2.symm, HF.out.1⟩

theorem specFlushAll_any (w : World) (E F G : TypeId) (x : ArrN) (am ad : Option Addr) (nm cm nd cd : Nat) (ms : List MemD) (ds : List EntD) (h0 : (tMemS E F).Rd w [.slice am nm cm] ms) (h1 : (tWrS G).Rd w [.slice ad nd cd] ds) (hw0 : wtArr ms ds <= 1900000) :
 Calls Tryz.prog 33 #[.agg #[.int .i64 x.id, .int .i64 x.n, .int .i64 x.s, .slice am nm cm, .int .i64 x.lost, .int .i64 x.built, .int .i64 x.seq, .int .i64 x.tail, .int .i64 x.gen, .slice ad nd cd, .int .i64 x.fuse, .bool x.down, .bool x.broken]] w fun e w' => ArrOutC w w' e (allA x ms ds) (allC x ms ds) (allD x ms ds) := by
 have hw : wtArr ms ds <= 2097152 := by omega
 obtain ⟨rfl, _⟩ := row_length h0
 obtain ⟨rfl, _⟩ := row_length h1
 have hA := (new_below w (.cells #[.int .i64 x.id, .int .i64 x.n, .int .i64 x.s, .slice am ms.length cm, .int .i64 x.lost, .int .i64 x.built, .int .i64 x.seq, .int .i64 x.tail, .int .i64 x.gen, .slice ad ds.length cd, .int .i64 x.fuse, .bool x.down, .bool x.broken] 29)).alloc (by simp) (.cells #[.int .i64 0, .int .i64 0, .int .i64 0, .slice none 0 0, .int .i64 0, .int .i64 0, .int .i64 0, .int .i64 0, .int .i64 0, .slice none 0 0, .int .i64 0, .bool false, .bool false] 29)
 have X0 : Box ((w.alloc (.cells #[.int .i64 x.id, .int .i64 x.n, .int .i64 x.s, .slice am ms.length cm, .int .i64 x.lost, .int .i64 x.built, .int .i64 x.seq, .int .i64 x.tail, .int .i64 x.gen, .slice ad ds.length cd, .int .i64 x.fuse, .bool x.down, .bool x.broken] 29)).alloc (.cells #[.int .i64 0, .int .i64 0, .int .i64 0, .slice none 0 0, .int .i64 0, .int .i64 0, .int .i64 0, .int .i64 0, .int .i64 0, .slice none 0 0, .int .i64 0, .bool false, .bool false] 29)) w.heap.size 29 #[.int .i64 x.id, .int .i64 x.n, .int .i64 x.s, .slice am ms.length cm, .int .i64 x.lost, .int .i64 x.built, .int .i64 x.seq, .int .i64 x.tail, .int .i64 x.gen, .slice ad ds.length cd, .int .i64 x.fuse, .bool x.down, .bool x.broken] := (Box.new w _ _).alloc _
 have R0 := Box.new (w.alloc (.cells #[.int .i64 x.id, .int .i64 x.n, .int .i64 x.s, .slice am ms.length cm, .int .i64 x.lost, .int .i64 x.built, .int .i64 x.seq, .int .i64 x.tail, .int .i64 x.gen, .slice ad ds.length cd, .int .i64 x.fuse, .bool x.down, .bool x.broken] 29)) 29 #[.int .i64 0, .int .i64 0, .int .i64 0, .slice none 0 0, .int .i64 0, .int .i64 0, .int .i64 0, .int .i64 0, .int .i64 0, .slice none 0 0, .int .i64 0, .bool false, .bool false]
 rw [World.size_alloc] at R0
 have zX := X0.lt
 have zR := R0.lt
 have r0 := h0.below hA
 have r1 := h1.below hA
 have hzW : ((w.alloc (.cells #[.int .i64 x.id, .int .i64 x.n, .int .i64 x.s, .slice am ms.length cm, .int .i64 x.lost, .int .i64 x.built, .int .i64 x.seq, .int .i64 x.tail, .int .i64 x.gen, .slice ad ds.length cd, .int .i64 x.fuse, .bool x.down, .bool x.broken] 29)).alloc (.cells #[.int .i64 0, .int .i64 0, .int .i64 0, .slice none 0 0, .int .i64 0, .int .i64 0, .int .i64 0, .int .i64 0, .int .i64 0, .slice none 0 0, .int .i64 0, .bool false, .bool false] 29)).heap.size = w.heap.size + 1 + 1 := by simp
 obtain ⟨k0, k1, k2, k3, k4, k5, k6, k7, k8, k9, k10, k11, k12⟩ := X0.cells13
 go_enter Tryz.func33, Tryz.ntmps33
 go_wp2_with fail
 generalize (w.alloc (.cells #[.int .i64 x.id, .int .i64 x.n, .int .i64 x.s, .slice am ms.length cm, .int .i64 x.lost, .int .i64 x.built, .int .i64 x.seq, .int .i64 x.tail, .int .i64 x.gen, .slice ad ds.length cd, .int .i64 x.fuse, .bool x.down, .bool x.broken] 29)).alloc (.cells #[.int .i64 0, .int .i64 0, .int .i64 0, .slice none 0 0, .int .i64 0, .int .i64 0, .int .i64 0, .int .i64 0, .int .i64 0, .slice none 0 0, .int .i64 0, .bool false, .bool false] 29) = W at hA X0 R0 zX zR r0 r1 hzW k0 k1 k2 k3 k4 k5 k6 k7 k8 k9 k10 k11 k12 ⊢
 obtain ⟨BR, hBR⟩ : ∃ BR, w.heap.size + 1 = BR := ⟨_, rfl⟩
 rw [hBR] at R0 zR hzW ⊢
 have q1 : w.heap.size + 1 <= BR /\ BR <= w.heap.size + 1 := by omega
 clear hBR
 refine (l6Copy_any _ E F G x _ _ _ _ _ _ ms ds r0 r1 hw).mono ?_
 rintro e w1 ⟨bm, cm1, bd, cd1, m, rfl, om, od, zm, zm2, b1⟩
 have bn := new_below w1 (.cells #[.int .i64 x.id, .int .i64 x.n, .int .i64 x.s, .slice bm ms.length cm1, .int .i64 x.lost, .int .i64 x.built, .int .i64 x.seq, .int .i64 x.tail, .int .i64 x.gen, .slice bd ds.length cd1, .int .i64 x.fuse, .bool x.down, .bool x.broken] 29)
 have b12 : Below W.heap.size W (w1.alloc (.cells #[.int .i64 x.id, .int .i64 x.n, .int .i64 x.s, .slice bm ms.length cm1, .int .i64 x.lost, .int .i64 x.built, .int .i64 x.seq, .int .i64 x.tail, .int .i64 x.gen, .slice bd ds.length cd1, .int .i64 x.fuse, .bool x.down, .bool x.broken] 29)) := Below.andThen b1 bn
 have Y := Box.new w1 29 #[.int .i64 x.id, .int .i64 x.n, .int .i64 x.s, .slice bm ms.length cm1, .int .i64 x.lost, .int .i64 x.built, .int .i64 x.seq, .int .i64 x.tail, .int .i64 x.gen, .slice bd ds.length cd1, .int .i64 x.fuse, .bool x.down, .bool x.broken]
 have zY := Y.lt
 have z1 := b1.size
 obtain ⟨fm, mm, rm⟩ := (om.below bn).mine
 obtain ⟨fd, md, rd⟩ := (od.below bn).mine
 have A2 : ArrAt (w1.alloc (.cells #[.int .i64 x.id, .int .i64 x.n, .int .i64 x.s, .slice bm ms.length cm1, .int .i64 x.lost, .int .i64 x.built, .int .i64 x.seq, .int .i64 x.tail, .int .i64 x.gen, .slice bd ds.length cd1, .int .i64 x.fuse, .bool x.down, .bool x.broken] 29)) w1.heap.size x ms ds fm fd := ⟨bm, bd, cm1, cd1, Y, mm, md, fun b hb hb' => by have h1 := rm b hb; have h2 := rd b hb'; omega, fun hm => by have := rm _ hm; omega, fun hm => by have := rd _ hm; omega⟩
 have X2 := X0.below b12 zX
 have R2 := R0.below b12 zR
 have p0 := r0.below b12
 have p1 := r1.below b12
 have B2 := Below.andThen hA b12
 have rm2 : ∀ b ∈ fm, W.heap.size <= b := fun b hb => by have := rm b hb; omega
 have rd2 : ∀ b ∈ fd, W.heap.size <= b := fun b hb => by have := rd b hb; omega
 clear k0 k1 k2 k3 k4 k5 k6 k7 k8 k9 k10 k11 k12 X0 R0 r0 r1 om od b1 bn b12 Y mm rm md rd hA
 obtain ⟨k0, k1, k2, k3, k4, k5, k6, k7, k8, k9, k10, k11, k12⟩ := X2.cells13
 go_wp2_with fail
 generalize w1.alloc (.cells #[.int .i64 x.id, .int .i64 x.n, .int .i64 x.s, .slice bm ms.length cm1, .int .i64 x.lost, .int .i64 x.built, .int .i64 x.seq, .int .i64 x.tail, .int .i64 x.gen, .slice bd ds.length cd1, .int .i64 x.fuse, .bool x.down, .bool x.broken] 29) = w2 at A2 X2 R2 p0 p1 B2 zY k0 k1 k2 k3 k4 k5 k6 k7 k8 k9 k10 k11 k12 ⊢
 obtain ⟨B, hB⟩ : ∃ B, w1.heap.size = B := ⟨_, rfl⟩
 rw [hB] at A2 zY z1 ⊢
 clear hB
 refine (l8May_any _ E F G x _ _ _ _ _ _ ms ds p0 p1 hw).mono ?_
 rintro e w3 ⟨rfl, b3⟩
 have A3 := A2.below b3
 have R3 := R2.below b3 R2.lt
 have B3 := Below.andThen B2 b3
 have z3 := b3.size
 clear k0 k1 k2 k3 k4 k5 k6 k7 k8 k9 k10 k11 k12 A2 X2 R2 p0 p1 B2 b3
 by_cases hq : ask8 x ms ds = 0
 . have HV := hidden (all_good hq)
   have HLS := hidden (l8All_any w3 B x ms ds fm fd A3 hw0)
   rw [hq]
   clear hq A3
   go_wp2_with fail
   refine HLS.out.mono ?_
   rintro e w4 ⟨rfl, fm4, fd4, A4, T4, N4⟩
   have NR : ∀ b ∈ B :: (fm ++ fd), w.heap.size < b /\ ¬ b = BR := fun b hb => by
    simp only [List.mem_cons, List.mem_append] at hb
    rcases hb with h | h | h
    . omega
    . have := rm2 b h; omega
    . have := rd2 b h; omega
   have R4 := R3.turned T4 (fun hm => (NR _ hm).2 rfl)
   have B4 : Below w.heap.size w w4 := B3.trans ⟨T4.os, T4.tape, T4.output, T4.size, fun k hk => T4.block k (by omega) (fun hm => by have := (NR k hm).1; omega)⟩
   have rm4 : ∀ b ∈ fm4, W.heap.size <= b := fun b hb => by rcases N4 b (.inl hb) with h | h | h; exact rm2 b h; exact rd2 b h; omega
   have rd4 : ∀ b ∈ fd4, W.heap.size <= b := fun b hb => by rcases N4 b (.inr hb) with h | h | h; exact rm2 b h; exact rd2 b h; omega
   clear R3 B3 T4 N4 HLS NR
   generalize allR (x, ms) ds = st at A4 HV ⊢
   obtain ⟨⟨y, ns⟩, es, sc⟩ := st
   dsimp only at A4 HV ⊢
   obtain ⟨vm, vd, cvm, cvd, Yf, mf, df, hrf, r1f, r2f⟩ := A4
   have Y0 := Yf
   unfold arrC at Y0
   obtain ⟨t0, t1, t2, t3, t4, t5, t6, t7, t8, t9, t10, t11, t12⟩ := Y0.cells13
   obtain ⟨s0, s1, s2, s3, s4, s5, s6, s7, s8, s9, s10, s11, s12⟩ := R4.cells13
   have fz := R4.frozen
   have HO := hidden (arr_outC (y := y) (code := sc) (e := .returned (.tuple #[.agg (arrC y _ _), .int .i64 sc])) (lo := BR + 1) B4 R4 rfl mf df hrf (fun b hb => by have := rm4 b hb; omega) (fun b hb => by have := rd4 b hb; omega) (by omega) (by omega))
   unfold arrC at HO
   simp only [puts] at HO
   clear Yf Y0 mf df R4 B4
   generalize hdl : (es).length = dl at t9 HO ⊢
   have HDL := hidden hdl
   clear hdl
   go_wp2
   refine bodyPost_ret (v := .tuple #[.agg #[.int .i64 y.id, .int .i64 y.n, .int .i64 y.s, .slice vm ns.length cvm, .int .i64 y.lost, .int .i64 y.built, .int .i64 y.seq, .int .i64 y.tail, .int .i64 y.gen, .slice vd dl cvd, .int .i64 y.fuse, .bool y.down, .bool y.broken], .int .i64 sc]) (by simp [results, Tryz.results33, go_sem, s0, s1, s2, s3, s4, s5, s6, s7, s8, s9, s10, s11, s12]) rfl ?_
   rw [HV.out.1, HV.out.2.1, HV.out.2.2]; exact HO.out
 . have HV := hidden (all_bad hq)
   have e0 : (ask8 x ms ds != 0) = true := by simpa using hq
   clear hq
   generalize ask8 x ms ds = q at e0 HV ⊢
   obtain ⟨vm, vd, cvm, cvd, Yf, mf, df, hrf, r1f, r2f⟩ := A3
   have Y0 := Yf
   unfold arrC at Y0
   obtain ⟨t0, t1, t2, t3, t4, t5, t6, t7, t8, t9, t10, t11, t12⟩ := Y0.cells13
   obtain ⟨s0, s1, s2, s3, s4, s5, s6, s7, s8, s9, s10, s11, s12⟩ := R3.cells13
   have fz := R3.frozen
   have HO := hidden (arr_outC (y := x) (code := q) (e := .returned (.tuple #[.agg (arrC x _ _), .int .i64 q])) (lo := BR + 1) B3 R3 rfl mf df hrf (fun b hb => by have := rm2 b hb; omega) (fun b hb => by have := rd2 b hb; omega) (by omega) (by omega))
   unfold arrC at HO
   simp only [puts] at HO
   clear Yf Y0 mf df R3 B3
   go_wp2
   refine bodyPost_ret (v := .tuple #[.agg #[.int .i64 x.id, .int .i64 x.n, .int .i64 x.s, .slice vm ms.length cvm, .int .i64 x.lost, .int .i64 x.built, .int .i64 x.seq, .int .i64 x.tail, .int .i64 x.gen, .slice vd ds.length cvd, .int .i64 x.fuse, .bool x.down, .bool x.broken], .int .i64 q]) (by simp [results, Tryz.results33, go_sem, s0, s1, s2, s3, s4, s5, s6, s7, s8, s9, s10, s11, s12]) rfl ?_
   rw [HV.out.1, HV.out.2.1, HV.out.2.2]; exact HO.out

theorem fnExactFlushAll_walk (x : ArrN) (am ad : Option Addr) (nm cm nd cd : Nat) (ms : List MemD) (ds : List (Int × List Int)) (w : World) (h0 : (tMemS 202 148).Rd w [.slice am nm cm] ms) (h1 : (tWrS 150).Rd w [.slice ad nd cd] ds) :
 Calls Tryz.prog 7 #[.agg #[.int .i64 x.id, .int .i64 x.n, .int .i64 x.s, .slice am nm cm, .int .i64 x.lost, .int .i64 x.built, .int .i64 x.seq, .int .i64 x.tail, .int .i64 x.gen, .slice ad nd cd, .int .i64 x.fuse, .bool x.down, .bool x.broken]] w fun e w' => e = .returned (.bool true) /\ Below w.heap.size w w' := by
 have hA := new_below w (.cells #[.int .i64 x.id, .int .i64 x.n, .int .i64 x.s, .slice am nm cm, .int .i64 x.lost, .int .i64 x.built, .int .i64 x.seq, .int .i64 x.tail, .int .i64 x.gen, .slice ad nd cd, .int .i64 x.fuse, .bool x.down, .bool x.broken] 51)
 have xm := Box.new w 51 #[.int .i64 x.id, .int .i64 x.n, .int .i64 x.s, .slice am nm cm, .int .i64 x.lost, .int .i64 x.built, .int .i64 x.seq, .int .i64 x.tail, .int .i64 x.gen, .slice ad nd cd, .int .i64 x.fuse, .bool x.down, .bool x.broken]
 have z0 := xm.lt
 have B0 := hidden hA
 have BR0 := hidden xm
 obtain ⟨l0, l1, l2, l3, l4, l5, l6, l7, l8, l9, l10, l11, l12⟩ := xm.cells13
 go_enter Tryz.func7, Tryz.ntmps7
 go_wp2_with fail
 generalize w.alloc (.cells #[.int .i64 x.id, .int .i64 x.n, .int .i64 x.s, .slice am nm cm, .int .i64 x.lost, .int .i64 x.built, .int .i64 x.seq, .int .i64 x.tail, .int .i64 x.gen, .slice ad nd cd, .int .i64 x.fuse, .bool x.down, .bool x.broken] 51) = w0 at hA xm z0 B0 BR0 l0 l1 l2 l3 l4 l5 l6 l7 l8 l9 l10 l11 l12 ⊢
 clear hA xm
 refine (szArr_any _ 202 148 150 x _ _ _ _ _ _ ms ds _ (h0.below B0.out) (h1.below B0.out) (by omega) (by omega)).mono ?_
 rintro e w1 ⟨rfl, hb1⟩
 clear l0 l1 l2 l3 l4 l5 l6 l7 l8 l9 l10 l11 l12
 have B1 := hidden (Below.andThen B0.out hb1)
 have BR1 := hidden (BR0.out.below hb1 (by omega))
 have z1 := hb1.size
 clear B0 BR0 hb1
 by_cases hwt : (wtArr ms ds : Int) <= 1048576
 . have hq := leftOf_pos hwt
   have hwt' : wtArr ms ds <= 1048576 := by omega
   have hwt2 : wtArr ms ds <= 2097152 := by omega
   have hwq0 := all_wt (x := x) hwt'
   obtain ⟨y, ns, hq0⟩ : ∃ (y : ArrN) (ns : List MemD), allA x ms ds = (y, ns) := ⟨_, _, rfl⟩
   obtain ⟨es, hqd⟩ : ∃ es, allD x ms ds = es := ⟨_, rfl⟩
   have HQ := hidden hq0
   have HQD := hidden hqd
   have hwq : wtArr ns es <= 2097152 := by rw [hqd] at hwq0; rw [show ns = (y, ns).2 from rfl, ← hq0]; exact hwq0
   obtain ⟨sc, hsc⟩ : ∃ sc, allC x ms ds = sc := ⟨_, rfl⟩
   have HQC := hidden hsc
   clear hq0 hwq0 hsc hqd
   have hne : (sc != sc) = false := by simp
   have hwt3 : wtArr ms ds <= 2000000 := by omega
   have hwt4 : wtArr ms ds <= 1900000 := by omega
   have hcle := cntA_le hwt'
   obtain ⟨l0, l1, l2, l3, l4, l5, l6, l7, l8, l9, l10, l11, l12⟩ := BR1.out.cells13
   go_wp2_with fail
   refine (toArr_any _ 202 148 150 x _ _ _ _ _ _ ms ds (h0.below B1.out) (h1.below B1.out) hwt').mono ?_
   rintro e w2 ⟨bm2, bd2, rfl, om2, od2, ya2, yb2, hb2⟩
   clear l0 l1 l2 l3 l4 l5 l6 l7 l8 l9 l10 l11 l12
   have B2 := hidden (Below.andThen B1.out hb2)
   have BR2 := hidden (BR1.out.below hb2 (by omega))
   have z2 := hb2.size
   clear B1 BR1 hb2
   have Cm2 := hidden om2
   clear om2
   have Cd2 := hidden od2
   clear od2
   go_wp2_with fail
   refine (specFlushAll_any _ 159 109 86 x _ _ _ _ _ _ ms ds Cm2.out.rd Cd2.out.rd hwt4 ).mono ?_
   rintro e w3 ho3
   rw [HQ.out, HQC.out, HQD.out] at ho3
   obtain ⟨a3, d3, c3, b3, rfl, o3, hb3⟩ := ho3
   dsimp only at o3
   unfold arrC
   have B3 := hidden (Below.andThen B2.out hb3)
   have BR3 := hidden (BR2.out.below hb3 (by omega))
   have Cm3 := hidden (Cm2.out.below hb3)
   have Cd3 := hidden (Cd2.out.below hb3)
   have z3 := hb3.size
   clear B2 BR2 Cm2 Cd2 hb3
   have W3 := hidden o3
   clear o3
   clear Cm3
   clear Cd3
   have ba : Below w3.heap.size w3 (w3.alloc (.cells #[.int .i64 y.id, .int .i64 y.n, .int .i64 y.s, .slice a3 ns.length c3, .int .i64 y.lost, .int .i64 y.built, .int .i64 y.seq, .int .i64 y.tail, .int .i64 y.gen, .slice d3 es.length b3, .int .i64 y.fuse, .bool y.down, .bool y.broken] 29)) := (Below.refl _ _).alloc (Nat.le_refl _) _
   have xb := Box.new w3 29 #[.int .i64 y.id, .int .i64 y.n, .int .i64 y.s, .slice a3 ns.length c3, .int .i64 y.lost, .int .i64 y.built, .int .i64 y.seq, .int .i64 y.tail, .int .i64 y.gen, .slice d3 es.length b3, .int .i64 y.fuse, .bool y.down, .bool y.broken]
   have zx4 := xb.lt
   have B4 := hidden (Below.andThen B3.out ba)
   have BR4 := hidden (BR3.out.below ba (by omega))
   have W4 := hidden (W3.out.below ba)
   have z4 := ba.size
   clear B3 BR3 W3 ba
   have WB4 := hidden xb
   clear xb
   obtain ⟨l0, l1, l2, l3, l4, l5, l6, l7, l8, l9, l10, l11, l12⟩ := BR4.out.cells13
   go_wp2_with fail
   generalize w3.alloc (.cells #[.int .i64 y.id, .int .i64 y.n, .int .i64 y.s, .slice a3 ns.length c3, .int .i64 y.lost, .int .i64 y.built, .int .i64 y.seq, .int .i64 y.tail, .int .i64 y.gen, .slice d3 es.length b3, .int .i64 y.fuse, .bool y.down, .bool y.broken] 29) = w4 at B4 BR4 W4 WB4 z4 zx4 l0 l1 l2 l3 l4 l5 l6 l7 l8 l9 l10 l11 l12 ⊢
   refine (toArr_any _ 202 148 150 x _ _ _ _ _ _ ms ds (h0.below B4.out) (h1.below B4.out) hwt').mono ?_
   rintro e w5 ⟨bm5, bd5, rfl, om5, od5, ya5, yb5, hb5⟩
   clear l0 l1 l2 l3 l4 l5 l6 l7 l8 l9 l10 l11 l12
   have B5 := hidden (Below.andThen B4.out hb5)
   have BR5 := hidden (BR4.out.below hb5 (by omega))
   have W5 := hidden (W4.out.below hb5)
   have WB5 := hidden (WB4.out.below hb5 (by omega))
   have z5 := hb5.size
   clear B4 BR4 W4 WB4 hb5
   have Dm5 := hidden om5
   clear om5
   have Dd5 := hidden od5
   clear od5
   have ba : Below w5.heap.size w5 (w5.alloc (.cells #[.int .i64 x.id, .int .i64 x.n, .int .i64 x.s, .slice (some ⟨bm5, 0, none⟩) nm nm, .int .i64 x.lost, .int .i64 x.built, .int .i64 x.seq, .int .i64 x.tail, .int .i64 x.gen, .slice (some ⟨bd5, 0, none⟩) nd nd, .int .i64 x.fuse, .bool x.down, .bool x.broken] 29)) := (Below.refl _ _).alloc (Nat.le_refl _) _
   have xb := Box.new w5 29 #[.int .i64 x.id, .int .i64 x.n, .int .i64 x.s, .slice (some ⟨bm5, 0, none⟩) nm nm, .int .i64 x.lost, .int .i64 x.built, .int .i64 x.seq, .int .i64 x.tail, .int .i64 x.gen, .slice (some ⟨bd5, 0, none⟩) nd nd, .int .i64 x.fuse, .bool x.down, .bool x.broken]
   have zx := xb.lt
   have B6 := hidden (Below.andThen B5.out ba)
   have BR6 := hidden (BR5.out.below ba (by omega))
   have W6 := hidden (W5.out.below ba)
   have WB6 := hidden (WB5.out.below ba (by omega))
   have Dm6 := hidden (Dm5.out.below ba)
   have Dd6 := hidden (Dd5.out.below ba)
   have z6 := ba.size
   clear B5 BR5 W5 WB5 Dm5 Dd5 ba
   have BX6 := hidden xb
   clear xb
   obtain ⟨q0, q1, q2, q3, q4, q5, q6, q7, q8, q9, q10, q11, q12⟩ := BX6.out.cells13
   go_wp2_with fail
   generalize w5.alloc (.cells #[.int .i64 x.id, .int .i64 x.n, .int .i64 x.s, .slice (some ⟨bm5, 0, none⟩) nm nm, .int .i64 x.lost, .int .i64 x.built, .int .i64 x.seq, .int .i64 x.tail, .int .i64 x.gen, .slice (some ⟨bd5, 0, none⟩) nd nd, .int .i64 x.fuse, .bool x.down, .bool x.broken] 29) = w6 at B6 BR6 W6 WB6 Dm6 Dd6 BX6 z6 zx q0 q1 q2 q3 q4 q5 q6 q7 q8 q9 q10 q11 q12 ⊢
   refine (implFlushAll_any _ 159 109 86 x _ _ _ _ _ _ ms ds Dm6.out.rd Dd6.out.rd hwt4 ).mono ?_
   rintro e w7 ho7
   rw [HQ.out, HQC.out, HQD.out] at ho7
   obtain ⟨a7, d7, c7, b7, rfl, o7, hb7⟩ := ho7
   dsimp only at o7
   unfold arrC
   have B7 := hidden (Below.andThen B6.out hb7)
   have BR7 := hidden (BR6.out.below hb7 (by omega))
   have W7 := hidden (W6.out.below hb7)
   have WB7 := hidden (WB6.out.below hb7 (by omega))
   have Dm7 := hidden (Dm6.out.below hb7)
   have Dd7 := hidden (Dd6.out.below hb7)
   have BX7 := hidden (BX6.out.below hb7 (by omega))
   have z7 := hb7.size
   clear B6 BR6 W6 WB6 Dm6 Dd6 BX6 hb7
   have G7 := hidden o7
   clear o7
   clear q0 q1 q2 q3 q4 q5 q6 q7 q8 q9 q10 q11 q12
   have ba : Below w7.heap.size w7 (w7.alloc (.cells #[.int .i64 y.id, .int .i64 y.n, .int .i64 y.s, .slice a7 ns.length c7, .int .i64 y.lost, .int .i64 y.built, .int .i64 y.seq, .int .i64 y.tail, .int .i64 y.gen, .slice d7 es.length b7, .int .i64 y.fuse, .bool y.down, .bool y.broken] 29)) := (Below.refl _ _).alloc (Nat.le_refl _) _
   have xb := Box.new w7 29 #[.int .i64 y.id, .int .i64 y.n, .int .i64 y.s, .slice a7 ns.length c7, .int .i64 y.lost, .int .i64 y.built, .int .i64 y.seq, .int .i64 y.tail, .int .i64 y.gen, .slice d7 es.length b7, .int .i64 y.fuse, .bool y.down, .bool y.broken]
   have zx8 := xb.lt
   have B8 := hidden (Below.andThen B7.out ba)
   have BR8 := hidden (BR7.out.below ba (by omega))
   have W8 := hidden (W7.out.below ba)
   have WB8 := hidden (WB7.out.below ba (by omega))
   have Dm8 := hidden (Dm7.out.below ba)
   have Dd8 := hidden (Dd7.out.below ba)
   have BX8 := hidden (BX7.out.below ba (by omega))
   have G8 := hidden (G7.out.below ba)
   have z8 := ba.size
   clear B7 BR7 W7 WB7 Dm7 Dd7 BX7 G7 ba
   have GB8 := hidden xb
   clear xb
   obtain ⟨p0, p1, p2, p3, p4, p5, p6, p7, p8, p9, p10, p11, p12⟩ := GB8.out.cells13
   obtain ⟨q0, q1, q2, q3, q4, q5, q6, q7, q8, q9, q10, q11, q12⟩ := WB8.out.cells13
   go_wp2_with fail
   generalize w7.alloc (.cells #[.int .i64 y.id, .int .i64 y.n, .int .i64 y.s, .slice a7 ns.length c7, .int .i64 y.lost, .int .i64 y.built, .int .i64 y.seq, .int .i64 y.tail, .int .i64 y.gen, .slice d7 es.length b7, .int .i64 y.fuse, .bool y.down, .bool y.broken] 29) = w8 at B8 BR8 W8 WB8 Dm8 Dd8 BX8 G8 GB8 z8 zx8 p0 p1 p2 p3 p4 p5 p6 p7 p8 p9 p10 p11 p12 q0 q1 q2 q3 q4 q5 q6 q7 q8 q9 q10 q11 q12 ⊢
   refine (eqArr_same _ 159 159 109 109 86 86 y _ _ _ _ _ _ _ _ _ _ _ _ ns es G8.out.rdm G8.out.rdd W8.out.rdm W8.out.rdd hwq).mono ?_
   rintro e w9 ⟨rfl, hb9⟩
   clear p0 p1 p2 p3 p4 p5 p6 p7 p8 p9 p10 p11 p12 q0 q1 q2 q3 q4 q5 q6 q7 q8 q9 q10 q11 q12
   have B9 := hidden (Below.andThen B8.out hb9)
   have BR9 := hidden (BR8.out.below hb9 (by omega))
   have W9 := hidden (W8.out.below hb9)
   have WB9 := hidden (WB8.out.below hb9 (by omega))
   have Dm9 := hidden (Dm8.out.below hb9)
   have Dd9 := hidden (Dd8.out.below hb9)
   have BX9 := hidden (BX8.out.below hb9 (by omega))
   have G9 := hidden (G8.out.below hb9)
   have GB9 := hidden (GB8.out.below hb9 (by omega))
   have z9 := hb9.size
   clear B8 BR8 W8 WB8 Dm8 Dd8 BX8 G8 GB8 hb9
   obtain ⟨y0, y1, y2, y3, y4, y5, y6, y7, y8, y9, y10, y11, y12⟩ := BX9.out.cells13
   obtain ⟨l0, l1, l2, l3, l4, l5, l6, l7, l8, l9, l10, l11, l12⟩ := BR9.out.cells13
   have zl := BR9.out.lt
   have zy := BX9.out.lt
   go_wp2_with fail
   refine wp_region_held_drew (S := fun w' => (w'.cell? ⟨w5.heap.size, 0, none⟩ = some (.int .i64 x.id) /\ w'.cell? ⟨w5.heap.size, 1, none⟩ = some (.int .i64 x.n) /\ w'.cell? ⟨w5.heap.size, 2, none⟩ = some (.int .i64 x.s) /\ w'.cell? ⟨w5.heap.size, 3, none⟩ = some (.slice (some ⟨bm5, 0, none⟩) nm nm) /\ w'.cell? ⟨w5.heap.size, 4, none⟩ = some (.int .i64 x.lost) /\ w'.cell? ⟨w5.heap.size, 5, none⟩ = some (.int .i64 x.built) /\ w'.cell? ⟨w5.heap.size, 6, none⟩ = some (.int .i64 x.seq) /\ w'.cell? ⟨w5.heap.size, 7, none⟩ = some (.int .i64 x.tail) /\ w'.cell? ⟨w5.heap.size, 8, none⟩ = some (.int .i64 x.gen) /\ w'.cell? ⟨w5.heap.size, 9, none⟩ = some (.slice (some ⟨bd5, 0, none⟩) nd nd) /\ w'.cell? ⟨w5.heap.size, 10, none⟩ = some (.int .i64 x.fuse) /\ w'.cell? ⟨w5.heap.size, 11, none⟩ = some (.bool x.down) /\ w'.cell? ⟨w5.heap.size, 12, none⟩ = some (.bool x.broken)) /\ w'.cell? ⟨w.heap.size, 0, none⟩ = some (.int .i64 x.id) /\ w'.cell? ⟨w.heap.size, 1, none⟩ = some (.int .i64 x.n) /\ w'.cell? ⟨w.heap.size, 2, none⟩ = some (.int .i64 x.s) /\ w'.cell? ⟨w.heap.size, 3, none⟩ = some (.slice am nm cm) /\ w'.cell? ⟨w.heap.size, 4, none⟩ = some (.int .i64 x.lost) /\ w'.cell? ⟨w.heap.size, 5, none⟩ = some (.int .i64 x.built) /\ w'.cell? ⟨w.heap.size, 6, none⟩ = some (.int .i64 x.seq) /\ w'.cell? ⟨w.heap.size, 7, none⟩ = some (.int .i64 x.tail) /\ w'.cell? ⟨w.heap.size, 8, none⟩ = some (.int .i64 x.gen) /\ w'.cell? ⟨w.heap.size, 9, none⟩ = some (.slice ad nd cd) /\ w'.cell? ⟨w.heap.size, 10, none⟩ = some (.int .i64 x.fuse) /\ w'.cell? ⟨w.heap.size, 11, none⟩ = some (.bool x.down) /\ w'.cell? ⟨w.heap.size, 12, none⟩ = some (.bool x.broken)) (by kernel_rfl) ?_ (fun hHeld => ?_)
   . exact ⟨BX9.out.cells13, BR9.out.cells13⟩
   refine held_take (i := 0) (v := ?_) rfl (by kernel_rfl) (by kernel_rfl) (by kernel_rfl) (fun _ _ _ h => h) (by kernel_rfl) ?_ hHeld ?_
   rotate_left 1
   . (intro w hSw; (try dsimp only at hSw); go_split_ands; go_simp; first | done | with_reducible rfl)
   simp only [Act.put, List.setIfInBounds_toArray, List.set_cons_zero, List.set_cons_succ]
   refine held_take (i := 1) (v := ?_) rfl (by kernel_rfl) (by kernel_rfl) (by kernel_rfl) (fun _ _ _ h => h) (by kernel_rfl) ?_ hHeld ?_
   rotate_left 1
   . (intro w hSw; (try dsimp only at hSw); go_split_ands; go_simp; first | done | with_reducible rfl)
   simp only [Act.put, List.setIfInBounds_toArray, List.set_cons_zero, List.set_cons_succ]
   refine held_one (i := 2) (by kernel_rfl) rfl (by kernel_rfl) (fun K hK => ?_)
   go_simp
   refine (toArr_any _ 202 148 150 x _ _ _ _ _ _ ms ds (h0.below B9.out).drew (h1.below B9.out).drew hwt').mono ?_
   rintro e w10 ⟨bm10, bd10, rfl, om10, od10, ya10, yb10, hb10⟩
   have hb10' : Below w9.heap.size w9 w10 := (Below.refl w9.heap.size w9).drew.trans hb10
   go_wp2_with fail
   clear hHeld
   refine hK.out _ _ ?_ (fun hHeld => ?_)
   . exact ⟨(BX9.out.below hb10' zy).cells13, (BR9.out.below hb10' zl).cells13⟩
   clear hK K
   refine held_one (i := 3) (by kernel_rfl) rfl (by kernel_rfl) (fun K hK => ?_)
   go_simp
   refine (eqArr_same _ 159 159 109 109 86 86 x _ _ _ _ _ _ _ _ _ _ _ _ ms ds (Dm9.out.below hb10').rd (Dd9.out.below hb10').rd om10.rd od10.rd hwt2).mono ?_
   rintro e w11 ⟨rfl, hb11⟩
   have hb11' : Below w9.heap.size w9 w11 := Below.andThen hb10' hb11
   go_wp2_with fail
   clear hHeld
   refine hK.out _ _ ?_ (fun hHeld => ?_)
   . exact ⟨(BX9.out.below hb11' zy).cells13, (BR9.out.below hb11' zl).cells13⟩
   clear hK K
   refine held_take (i := 4) (v := ?_) rfl (by kernel_rfl) (by kernel_rfl) (by kernel_rfl) (fun _ _ _ h => h) (by kernel_rfl) ?_ hHeld ?_
   rotate_left 1
   . (intro w hSw; (try dsimp only at hSw); go_split_ands; go_simp; first | done | with_reducible rfl)
   simp only [Act.put, List.setIfInBounds_toArray, List.set_cons_zero, List.set_cons_succ]
   refine wpAnyH_done (by kernel_rfl) ?_ _
   clear hHeld
   clear y0 y1 y2 y3 y4 y5 y6 y7 y8 y9 y10 y11 y12 l0 l1 l2 l3 l4 l5 l6 l7 l8 l9 l10 l11 l12
   clear zl zy om10 od10 ya10 yb10 hb10 hb11 hb10'
   have B11 := hidden (Below.andThen B9.out hb11')
   have BR11 := hidden (BR9.out.below hb11' (by omega))
   have W11 := hidden (W9.out.below hb11')
   have WB11 := hidden (WB9.out.below hb11' (by omega))
   have Dm11 := hidden (Dm9.out.below hb11')
   have Dd11 := hidden (Dd9.out.below hb11')
   have BX11 := hidden (BX9.out.below hb11' (by omega))
   have G11 := hidden (G9.out.below hb11')
   have GB11 := hidden (GB9.out.below hb11' (by omega))
   have z11 := hb11'.size
   clear B9 BR9 W9 WB9 Dm9 Dd9 BX9 G9 GB9 hb11'
   obtain ⟨q0, q1, q2, q3, q4, q5, q6, q7, q8, q9, q10, q11, q12⟩ := BX11.out.cells13
   go_wp2_with fail
   refine (markArr_own _ _ _ _ x _ _ _ _ _ _ ms ds Dm11.out Dd11.out (by omega) (by omega) (by omega) hwt2).mono ?_
   rintro e w12 ⟨rfl, _, _, hb12⟩
   clear q0 q1 q2 q3 q4 q5 q6 q7 q8 q9 q10 q11 q12
   clear Dm11
   clear Dd11
   clear BX11
   have B12 := hidden (Below.andBut B11.out hb12 (by omega))
   have BR12 := hidden (BR11.out.kept (hb12.block _ (by omega) (by omega)))
   have W12 := hidden (W11.out.but hb12 (by omega))
   have WB12 := hidden (WB11.out.kept (hb12.block _ (by omega) (by omega)))
   have G12 := hidden (G11.out.but hb12 (by omega))
   have GB12 := hidden (GB11.out.kept (hb12.block _ (by omega) (by omega)))
   have z12 := hb12.size
   clear B11 BR11 W11 WB11 G11 GB11 hb12
   have hcn : (0 : Int) <= 1 + (cntMS ms : Int) + (cntWS ds : Int) := by omega
   generalize 1 + (cntMS ms : Int) + (cntWS ds : Int) = cn at hcn ⊢
   obtain ⟨p0, p1, p2, p3, p4, p5, p6, p7, p8, p9, p10, p11, p12⟩ := GB12.out.cells13
   obtain ⟨q0, q1, q2, q3, q4, q5, q6, q7, q8, q9, q10, q11, q12⟩ := WB12.out.cells13
   go_wp2_with fail
   refine (eqArr_same _ 159 159 109 109 86 86 y _ _ _ _ _ _ _ _ _ _ _ _ ns es G12.out.rdm G12.out.rdd W12.out.rdm W12.out.rdd hwq).mono ?_
   rintro e w13 ⟨rfl, hb13⟩
   clear p0 p1 p2 p3 p4 p5 p6 p7 p8 p9 p10 p11 p12 q0 q1 q2 q3 q4 q5 q6 q7 q8 q9 q10 q11 q12
   have B13 := hidden (Below.andThen B12.out hb13)
   have BR13 := hidden (BR12.out.below hb13 (by omega))
   have W13 := hidden (W12.out.below hb13)
   have WB13 := hidden (WB12.out.below hb13 (by omega))
   have G13 := hidden (G12.out.below hb13)
   have GB13 := hidden (GB12.out.below hb13 (by omega))
   have z13 := hb13.size
   clear B12 BR12 W12 WB12 G12 GB12 hb13
   obtain ⟨p0, p1, p2, p3, p4, p5, p6, p7, p8, p9, p10, p11, p12⟩ := GB13.out.cells13
   go_wp2_with fail
   refine (markArr_in _ w6.heap.size w7.heap.size y _ _ _ _ _ _ ns es G13.out (by omega) hwq).mono ?_
   rintro e w14 ⟨rfl, oi14, hb14⟩
   clear p0 p1 p2 p3 p4 p5 p6 p7 p8 p9 p10 p11 p12
   clear G13
   have B14 := hidden (Below.andBut B13.out hb14 (by omega))
   have BR14 := hidden (BR13.out.kept (hb14.block _ (by omega) (by omega)))
   have W14 := hidden (W13.out.but hb14 (by omega))
   have WB14 := hidden (WB13.out.kept (hb14.block _ (by omega) (by omega)))
   have GB14 := hidden (GB13.out.kept (hb14.block _ (by omega) (by omega)))
   have z14 := hb14.size
   clear B13 BR13 W13 WB13 GB13 hb14
   have G14 := hidden oi14
   clear oi14
   obtain ⟨p0, p1, p2, p3, p4, p5, p6, p7, p8, p9, p10, p11, p12⟩ := GB14.out.cells13
   go_wp2_with fail
   refine (heldArr_any _ 159 109 86 y _ _ _ _ _ _ ns es G14.out.rdm G14.out.rdd hwq).mono ?_
   rintro e w15 ⟨rfl, hb15⟩
   clear p0 p1 p2 p3 p4 p5 p6 p7 p8 p9 p10 p11 p12
   have B15 := hidden (Below.andThen B14.out hb15)
   have BR15 := hidden (BR14.out.below hb15 (by omega))
   have W15 := hidden (W14.out.below hb15)
   have WB15 := hidden (WB14.out.below hb15 (by omega))
   have GB15 := hidden (GB14.out.below hb15 (by omega))
   have G15 := hidden (G14.out.below hb15)
   have z15 := hb15.size
   clear B14 BR14 W14 WB14 GB14 G14 hb15
   have hcm : (0 : Int) <= 1 + (cntMS ns : Int) + (cntWS es : Int) := by omega
   generalize hCM : 1 + (cntMS ns : Int) + (cntWS es : Int) = ck at hcm ⊢
   have HCM := hidden hCM
   clear hCM
   obtain ⟨l0, l1, l2, l3, l4, l5, l6, l7, l8, l9, l10, l11, l12⟩ := BR15.out.cells13
   go_wp2_with fail
   refine (toArr_any _ 202 148 150 x _ _ _ _ _ _ ms ds (h0.below B15.out) (h1.below B15.out) hwt').mono ?_
   rintro e w16 ⟨bm16, bd16, rfl, om16, od16, ya16, yb16, hb16⟩
   clear l0 l1 l2 l3 l4 l5 l6 l7 l8 l9 l10 l11 l12
   have B16 := hidden (Below.andThen B15.out hb16)
   have BR16 := hidden (BR15.out.below hb16 (by omega))
   have W16 := hidden (W15.out.below hb16)
   have WB16 := hidden (WB15.out.below hb16 (by omega))
   have GB16 := hidden (GB15.out.below hb16 (by omega))
   have G16 := hidden (G15.out.below hb16)
   have z16 := hb16.size
   clear B15 BR15 W15 WB15 GB15 G15 hb16
   have Em16 := hidden om16
   clear om16
   have Ed16 := hidden od16
   clear od16
   go_wp2_with fail
   refine (implFlushAll_any _ 159 109 86 x _ _ _ _ _ _ ms ds Em16.out.rd Ed16.out.rd hwt4 ).mono ?_
   rintro e w17 ho17
   rw [HQ.out, HQC.out, HQD.out] at ho17
   obtain ⟨a17, d17, c17, b17, rfl, o17, hb17⟩ := ho17
   dsimp only at o17
   unfold arrC
   have B17 := hidden (Below.andThen B16.out hb17)
   have BR17 := hidden (BR16.out.below hb17 (by omega))
   have W17 := hidden (W16.out.below hb17)
   have WB17 := hidden (WB16.out.below hb17 (by omega))
   have GB17 := hidden (GB16.out.below hb17 (by omega))
   have G17 := hidden (G16.out.below hb17)
   have Em17 := hidden (Em16.out.below hb17)
   have Ed17 := hidden (Ed16.out.below hb17)
   have z17 := hb17.size
   clear B16 BR16 W16 WB16 GB16 G16 Em16 Ed16 hb17
   have H17 := hidden o17
   clear o17
   clear Em17
   clear Ed17
   have ba : Below w17.heap.size w17 (w17.alloc (.cells #[.int .i64 y.id, .int .i64 y.n, .int .i64 y.s, .slice a17 ns.length c17, .int .i64 y.lost, .int .i64 y.built, .int .i64 y.seq, .int .i64 y.tail, .int .i64 y.gen, .slice d17 es.length b17, .int .i64 y.fuse, .bool y.down, .bool y.broken] 29)) := (Below.refl _ _).alloc (Nat.le_refl _) _
   have xb := Box.new w17 29 #[.int .i64 y.id, .int .i64 y.n, .int .i64 y.s, .slice a17 ns.length c17, .int .i64 y.lost, .int .i64 y.built, .int .i64 y.seq, .int .i64 y.tail, .int .i64 y.gen, .slice d17 es.length b17, .int .i64 y.fuse, .bool y.down, .bool y.broken]
   have zx18 := xb.lt
   have B18 := hidden (Below.andThen B17.out ba)
   have BR18 := hidden (BR17.out.below ba (by omega))
   have W18 := hidden (W17.out.below ba)
   have WB18 := hidden (WB17.out.below ba (by omega))
   have GB18 := hidden (GB17.out.below ba (by omega))
   have G18 := hidden (G17.out.below ba)
   have H18 := hidden (H17.out.below ba)
   have z18 := ba.size
   clear B17 BR17 W17 WB17 GB17 G17 H17 ba
   have HB18 := hidden xb
   clear xb
   obtain ⟨p0, p1, p2, p3, p4, p5, p6, p7, p8, p9, p10, p11, p12⟩ := HB18.out.cells13
   obtain ⟨q0, q1, q2, q3, q4, q5, q6, q7, q8, q9, q10, q11, q12⟩ := WB18.out.cells13
   go_wp2_with fail
   generalize w17.alloc (.cells #[.int .i64 y.id, .int .i64 y.n, .int .i64 y.s, .slice a17 ns.length c17, .int .i64 y.lost, .int .i64 y.built, .int .i64 y.seq, .int .i64 y.tail, .int .i64 y.gen, .slice d17 es.length b17, .int .i64 y.fuse, .bool y.down, .bool y.broken] 29) = w18 at B18 BR18 W18 WB18 GB18 G18 H18 HB18 z18 zx18 p0 p1 p2 p3 p4 p5 p6 p7 p8 p9 p10 p11 p12 q0 q1 q2 q3 q4 q5 q6 q7 q8 q9 q10 q11 q12 ⊢
   refine (eqArr_same _ 159 159 109 109 86 86 y _ _ _ _ _ _ _ _ _ _ _ _ ns es H18.out.rdm H18.out.rdd W18.out.rdm W18.out.rdd hwq).mono ?_
   rintro e w19 ⟨rfl, hb19⟩
   clear p0 p1 p2 p3 p4 p5 p6 p7 p8 p9 p10 p11 p12 q0 q1 q2 q3 q4 q5 q6 q7 q8 q9 q10 q11 q12
   have B19 := hidden (Below.andThen B18.out hb19)
   have BR19 := hidden (BR18.out.below hb19 (by omega))
   have W19 := hidden (W18.out.below hb19)
   have WB19 := hidden (WB18.out.below hb19 (by omega))
   have GB19 := hidden (GB18.out.below hb19 (by omega))
   have G19 := hidden (G18.out.below hb19)
   have H19 := hidden (H18.out.below hb19)
   have HB19 := hidden (HB18.out.below hb19 (by omega))
   have z19 := hb19.size
   clear B18 BR18 W18 WB18 GB18 G18 H18 HB18 hb19
   clear H19
   clear HB19
   clear W19
   clear WB19
   obtain ⟨p0, p1, p2, p3, p4, p5, p6, p7, p8, p9, p10, p11, p12⟩ := GB19.out.cells13
   go_wp2_with fail
   refine (heldArr_any _ 159 109 86 y _ _ _ _ _ _ ns es G19.out.rdm G19.out.rdd hwq).mono ?_
   rintro e w20 ⟨rfl, hb20⟩
   clear p0 p1 p2 p3 p4 p5 p6 p7 p8 p9 p10 p11 p12
   have B20 := hidden (Below.andThen B19.out hb20)
   have BR20 := hidden (BR19.out.below hb20 (by omega))
   have GB20 := hidden (GB19.out.below hb20 (by omega))
   have G20 := hidden (G19.out.below hb20)
   have z20 := hb20.size
   clear B19 BR19 GB19 G19 hb20
   rw [HCM.out]
   go_wp2
   go_ret
   exact ⟨rfl, B20.out⟩
 . have hq := leftOf_neg (left := 1048576) (wt := wtArr ms ds) (by omega)
   go_wp2
   go_ret
   exact ⟨rfl, B1.out⟩

end Go.Proofs.YtianjijbmiebgaaGreat

namespace Go.Proofs.YtianjijbmiebgaaGreat
open Go.RowKit Go.ChangeShapes Go.WideShapes Go.ChangeAt Go.Joins Go.Deep

section
variable {H : Type} {enc : TypeId × Value -> H} {P : Program} {w : World} {held : Bool}

theorem rdInts_of {t q : TypeId} {fuel : Nat} {v : Value} {x : DataW H × List MemPlace} (ht : P.underlying t = some (.slice q)) (hq : P.underlying q = some (.int .i64)) (cq : P.cellsOf q = 1)
 (h : DataW.trod enc P w 0 (fun _ => true) held fuel t [v] = some x) : ∃ zs, tIntS.Rd w [v] zs := by
 rcases open_ints ht hq cq h with ⟨hcs, _⟩ | ⟨a, len, cap, zs, hcs, _, hl, hm, hz, _, hcell, hwz⟩
 . simp at hcs
   subst hcs
   exact ⟨[], ints_rd_of (.inl rfl) (Nat.le_refl _) (by simp) (fun _ => rfl)⟩
 . simp at hcs
   subst hcs
   have hr : IsRow .i64 w (some a) len cap zs := .inr ⟨_, rfl, hl, hm, by simpa using hz, hcell, hwz⟩
   obtain ⟨h1, h2, _, _⟩ := hr.reads
   refine ⟨zs.take len, ?_⟩
   have := ints_rd_of (E := 3) (cap := cap) h1 (by omega) (by unfold maxLen at hm; omega) (by simp)
   rw [h2] at this
   exact this

theorem rd_row {t : Ty} {E : TypeId} {a : Addr} {len cap : Nat} (hl : len <= cap) (hm : cap <= 9223372036854775807) (cs : Nat -> List Value) (hn : 0 < t.n) (hcl : ∀ i, i < len -> (cs i).length = t.n)
 (hc : ∀ i, i < len -> ∀ j, j < t.n -> w.cell? (a.add (i * t.n + j)) = (cs i)[j]?) (hx : ∀ i, i < len -> ∃ x, t.Rd w (cs i) x) : ∃ d, (rowTy t E).Rd w [.slice (some a) len cap] d := by
 have each : ∀ i, i < len -> ∃ y : t.D × List Nat, t.rd w (cs i) y.1 y.2 := by
  intro i hi
  obtain ⟨x, fp, h⟩ := hx i hi
  exact ⟨(x, fp), h⟩
 by_cases h0 : len = 0
 . subst h0
   exact ⟨[], [], some a, cap, rfl, by simp, hm, .inl ⟨rfl, rfl, by simp⟩⟩
 . have hne : Nonempty (t.D × List Nat) := by
    obtain ⟨y, _⟩ := each 0 (by omega)
    exact ⟨y⟩
   have hch : ∃ f : Nat -> t.D × List Nat, ∀ i, i < len -> t.rd w (cs i) (f i).1 (f i).2 := by
    refine ⟨fun i => if h : i < len then Classical.choose (each i h) else Classical.choice hne, fun i hi => ?_⟩
    simp only [dif_pos hi]
    exact Classical.choose_spec (each i hi)
   obtain ⟨f, hf⟩ := hch
   obtain ⟨b, off, spot⟩ := a
   have hc0 := hc 0 (by omega) 0 hn
   have hsome : ∃ v0, (cs 0)[0]? = some v0 := ⟨(cs 0)[0]'(by rw [hcl 0 (by omega)]; exact hn), List.getElem?_eq_getElem _⟩
   obtain ⟨v0, hv0⟩ := hsome
   rw [hv0] at hc0
   have hspot : spot = none := by simpa [Addr.add] using World.cell?_spot hc0
   subst hspot
   have ea : ∀ k, (⟨b, off, none⟩ : Addr).add k = ⟨b, off + k, none⟩ := by
    intro k
    unfold Addr.add
    split <;> simp_all
   rw [ea] at hc0
   have hblt : b < w.heap.size := World.block_lt_of_cell? w _ hc0
   refine ⟨(List.range len).map fun i => (f i).1, b :: ((List.range len).map fun i => (f i).2).flatten, _, cap, by simp, by simpa using hl, hm, .inr ⟨b, off, (List.range len).map fun i => (f i).2, rfl, hblt, rfl, by simp, fun i x hxi => ?_⟩⟩
   have hi : i < len := by
    have := (List.getElem?_eq_some_iff.1 hxi).1
    simpa using this
   rw [List.getElem?_map, List.getElem?_range hi] at hxi
   simp at hxi
   subst hxi
   refine ⟨(f i).2, cs i, by rw [List.getElem?_map, List.getElem?_range hi]; rfl, hf i hi, fun j hj => ?_⟩
   rw [← ea]
   exact hc i hi j hj

theorem rdIntSS_of {t e q : TypeId} {fuel : Nat} {v : Value} {x : DataW H × List MemPlace} (ht : P.underlying t = some (.slice e)) (he : P.underlying e = some (.slice q)) (hq : P.underlying q = some (.int .i64)) (ce : P.cellsOf e = 1) (cq : P.cellsOf q = 1)
 (h : DataW.trod enc P w 0 (fun _ => true) held fuel t [v] = some x) : ∃ d, tIntSS.Rd w [v] d := by
 rcases open_slice1 ht ce h with ⟨hcs, _⟩ | ⟨a, len, cap, m, n, V, D, Pl, hcs, _, hl, hm, hmm, _, hx⟩
 . simp at hcs
   subst hcs
   exact ⟨[], [], none, 0, rfl, by simp, by simp, .inl ⟨rfl, rfl, fun _ => rfl⟩⟩
 . simp at hcs
   subst hcs
   simp only [if_true] at hmm
   refine rd_row hl (by unfold maxLen at hm; omega) (fun i => [V i]) (by decide) (fun _ _ => rfl) (fun i hi j hj => ?_) (fun i hi => rdInts_of he hq cq (hx i (by omega)).2)
   have hj0 : j = 0 := by have : j < 1 := hj; omega
   subst hj0
   have := (hx i (by omega)).1
   show w.cell? (a.add (i * 1 + 0)) = some (V i)
   rw [Nat.mul_one, Nat.add_zero]
   exact this

theorem rdWrS_of {t e q : TypeId} {f0 f1 : Field} {E : TypeId} {fuel : Nat} {v : Value} {x : DataW H × List MemPlace} (ht : P.underlying t = some (.slice e)) (he : P.underlying e = some (.struct #[f0, f1])) (ce : P.cellsOf e = 2) (o0 : f0.offset = 0) (o1 : f1.offset = 1) (c0 : P.cellsOf f0.type = 1) (c1 : P.cellsOf f1.type = 1)
 (hi0 : P.underlying f0.type = some (.int .i64)) (hi1 : P.underlying f1.type = some (.slice q)) (hq : P.underlying q = some (.int .i64)) (cq : P.cellsOf q = 1)
 (h : DataW.trod enc P w 0 (fun _ => true) held fuel t [v] = some x) : ∃ d, (tWrS E).Rd w [v] d := by
 rcases open_slice_pairs ht he ce o0 o1 c0 c1 h with ⟨hcs, _⟩ | ⟨a, len, cap, m, n, V0, V1, D0, D1, P0, P1, hcs, _, hl, hm, hmm, _, hx⟩
 . simp at hcs
   subst hcs
   exact ⟨[], [], none, 0, rfl, by simp, by simp, .inl ⟨rfl, rfl, fun _ => rfl⟩⟩
 . simp at hcs
   subst hcs
   simp only [if_true] at hmm
   refine rd_row hl (by unfold maxLen at hm; omega) (fun i => [V0 i, V1 i]) (by decide) (fun _ _ => rfl) (fun i hi j hj => ?_) (fun i hi => ?_)
   . have hj2 : j < 2 := hj
     obtain ⟨h0, h1, _⟩ := hx i (by omega)
     match j, hj2 with
     | 0, _ => exact h0
     | 1, _ => exact h1
   . obtain ⟨_, _, h2, h3⟩ := hx i (by omega)
     obtain ⟨y, hy, _, _⟩ := DataW.trod_int hi0 h2
     obtain ⟨zs, hzs⟩ := rdInts_of hi1 hq cq h3
     simp at hy
     exact ⟨(y, zs), by rw [hy]; exact pair_rd_of (t := intTy) (vs := [_]) ⟨[], rfl, rfl⟩ hzs⟩

end
end Go.Proofs.YtianjijbmiebgaaGreat

namespace Go.Proofs.YtianjijbmiebgaaGreat
open Go.RowKit Go.ChangeShapes Go.WideShapes Go.ChangeAt Go.Joins Go.Deep

section
variable {H : Type} {enc : TypeId × Value -> H} {w : World} {held : Bool}

theorem rdRow_of {P : Program} {t e E : TypeId} {u : Ty} {fuel : Nat} {v : Value} {x : DataW H × List MemPlace} (ht : P.underlying t = some (.slice e)) (ce : P.cellsOf e = u.n) (hn : 0 < u.n)
 (each : ∀ (n : Nat) (cs : List Value) (y : DataW H × List MemPlace), cs.length = u.n -> DataW.trod enc P w 0 (fun _ => true) held n e cs = some y -> ∃ d, u.Rd w cs d)
 (h : DataW.trod enc P w 0 (fun _ => true) held fuel t [v] = some x) : ∃ d, (rowTy u E).Rd w [v] d := by
 rcases open_slice ht h with ⟨hcs, _⟩ | ⟨a, len, cap, m, n, D, Pl, hcs, _, hl, hm, hmm, _, hx⟩
 . simp at hcs
   subst hcs
   exact ⟨[], [], none, 0, rfl, by simp, by simp, .inl ⟨rfl, rfl, fun _ => rfl⟩⟩
 . simp at hcs
   subst hcs
   simp only [if_true] at hmm
   have one : ∀ i, i < len -> ∃ cs : List Value, cs.length = u.n /\ (∀ j, j < u.n -> w.cell? (a.add (i * u.n + j)) = cs[j]?) /\ ∃ d, u.Rd w cs d := by
    intro i hi
    obtain ⟨cs', h1, h2⟩ := hx i (by omega)
    rw [ce] at h1
    obtain ⟨_, hlen, hcell⟩ := World.cells?_some h1
    refine ⟨cs', hlen, fun j hj => ?_, each n cs' _ hlen h2⟩
    have := hcell j hj
    rw [add_add] at this
    exact this
   obtain ⟨q, hq⟩ := choose_lt one
   exact rd_row hl (by unfold maxLen at hm; omega) q hn (fun i hi => (hq i hi).1) (fun i hi => (hq i hi).2.1) (fun i hi => (hq i hi).2.2)

theorem rdMemS_of {fuel : Nat} {v : Value} {x : DataW H × List MemPlace} (h : DataW.trod enc Tryz.prog w 0 (fun _ => true) held fuel 48 [v] = some x) : ∃ d, (tMemS 202 148).Rd w [v] d := by
 refine rdRow_of (e := 148) Tryz.underlying48 (by kernel_rfl) (by decide) (fun n cs y hl hy => ?_) h
 match cs, hl with
 | [v0, v1, v2, v3], _ =>
  obtain ⟨xs, k, _, _, _, hxl, hf⟩ := DataW.trod_struct Tryz.underlying148 hy
  have c1 : Tryz.prog.cellsOf 106 = 1 := by kernel_rfl
  have c2 : Tryz.prog.cellsOf 146 = 1 := by kernel_rfl
  have c3 : Tryz.prog.cellsOf 4 = 1 := by kernel_rfl
  have c4 : Tryz.prog.cellsOf 30 = 1 := by kernel_rfl
  match xs, hxl with
  | [y0, y1, y2, y3], _ =>
   have g0 := hf 0 _ rfl
   have g1 := hf 1 _ rfl
   have g2 := hf 2 _ rfl
   have g3 := hf 3 _ rfl
   simp [c1] at g0
   simp [c2] at g1
   simp [c3] at g2
   simp [c4] at g3
   obtain ⟨ss, r0⟩ := rdIntSS_of Tryz.underlying106 Tryz.underlying30 Tryz.underlying3 (by kernel_rfl) (by kernel_rfl) g0
   obtain ⟨ws, r1⟩ := rdWrS_of (E := 202) Tryz.underlying146 Tryz.underlying202 (by kernel_rfl) rfl rfl (by kernel_rfl) (by kernel_rfl) Tryz.underlying3 Tryz.underlying30 Tryz.underlying3 (by kernel_rfl) g1
   obtain ⟨f, hfb, _⟩ := DataW.trod_bool Tryz.underlying4 g2
   obtain ⟨bs, r3⟩ := rdInts_of Tryz.underlying30 Tryz.underlying3 (by kernel_rfl) g3
   simp at hfb
   subst hfb
   exact ⟨(ss, ws, f, bs), pair_rd_of (vs := [v0]) r0 (pair_rd_of (vs := [v1]) r1 (pair_rd_of (t := boolTy) (vs := [.bool f]) ⟨[], rfl, rfl⟩ r3))⟩

theorem array13 {cs : Array Value} (h : cs.size = 13) : ∃ c0 c1 c2 c3 c4 c5 c6 c7 c8 c9 c10 c11 c12, cs = #[c0, c1, c2, c3, c4, c5, c6, c7, c8, c9, c10, c11, c12] := by
 obtain ⟨l⟩ := cs
 match l, h with
 | [c0, c1, c2, c3, c4, c5, c6, c7, c8, c9, c10, c11, c12], _ => exact ⟨c0, c1, c2, c3, c4, c5, c6, c7, c8, c9, c10, c11, c12, rfl⟩

theorem open_arr {r : Reach} {b0 : Nat} {v : Value} {d : DataW H} {p : List MemPlace} (hv : Value.okWide Tryz.prog w r b0 51 v) (h : DataW.Trod enc Tryz.prog w 0 (fun _ => true) held 51 v d p) :
 ∃ (x : ArrN) (am ad : Option Addr) (cm cd : Nat) (ms : List MemD) (ds : List (Int × List Int)), v = .agg #[.int .i64 x.id, .int .i64 x.n, .int .i64 x.s, .slice am ms.length cm, .int .i64 x.lost, .int .i64 x.built, .int .i64 x.seq, .int .i64 x.tail, .int .i64 x.gen, .slice ad ds.length cd, .int .i64 x.fuse, .bool x.down, .bool x.broken] /\ (tMemS 202 148).Rd w [.slice am ms.length cm] ms /\ (tWrS 150).Rd w [.slice ad ds.length cd] ds := by
 obtain ⟨cs, rfl, hsz⟩ := okWide_struct Tryz.underlying51 hv
 obtain ⟨c0, c1, c2, c3, c4, c5, c6, c7, c8, c9, c10, c11, c12, rfl⟩ := array13 (hsz.trans (by kernel_rfl))
 obtain ⟨fuel, hf⟩ := h
 obtain ⟨xs, n, _, _, _, hxl, hx⟩ := DataW.trod_struct Tryz.underlying51 hf
 have k3 : Tryz.prog.cellsOf 3 = 1 := by kernel_rfl
 have k4 : Tryz.prog.cellsOf 4 = 1 := by kernel_rfl
 have kG : Tryz.prog.cellsOf 47 = 2 := by kernel_rfl
 have kM : Tryz.prog.cellsOf 48 = 1 := by kernel_rfl
 have kE : Tryz.prog.cellsOf 49 = 1 := by kernel_rfl
 match xs, hxl with
 | [y0, y1, y2, y3, y4, y5, y6, y7, y8, y9, y10, y11], _ =>
  have g0 := hx 0 _ rfl
  have g1 := hx 1 _ rfl
  have g2 := hx 2 _ rfl
  have g3 := hx 3 _ rfl
  have g4 := hx 4 _ rfl
  have g5 := hx 5 _ rfl
  have g6 := hx 6 _ rfl
  have g7 := hx 7 _ rfl
  have g8 := hx 8 _ rfl
  have g9 := hx 9 _ rfl
  have g10 := hx 10 _ rfl
  have g11 := hx 11 _ rfl
  simp [Value.cells, k3] at g0
  simp [Value.cells, kG] at g1
  simp [Value.cells, kM] at g2
  simp [Value.cells, k3] at g3
  simp [Value.cells, k3] at g4
  simp [Value.cells, k3] at g5
  simp [Value.cells, k3] at g6
  simp [Value.cells, k3] at g7
  simp [Value.cells, kE] at g8
  simp [Value.cells, k3] at g9
  simp [Value.cells, k4] at g10
  simp [Value.cells, k4] at g11
  obtain ⟨n0, e0, _, _⟩ := DataW.trod_int Tryz.underlying3 g0
  simp at e0
  subst e0
  obtain ⟨zs, m, _, _, _, hzl, hz⟩ := DataW.trod_struct Tryz.underlying47 g1
  match zs, hzl with
  | [z0, z1], _ =>
  have q0 := hz 0 _ rfl
  have q1 := hz 1 _ rfl
  simp [k3] at q0 q1
  obtain ⟨nn, en, _, _⟩ := DataW.trod_int Tryz.underlying3 q0
  obtain ⟨ns, es, _, _⟩ := DataW.trod_int Tryz.underlying3 q1
  simp at en es
  subst en es
  obtain ⟨ms, r2⟩ := rdMemS_of g2
  obtain ⟨am, cm, rfl⟩ := row_shape r2
  obtain ⟨n3, e3, _, _⟩ := DataW.trod_int Tryz.underlying3 g3
  simp at e3
  subst e3
  obtain ⟨n4, e4, _, _⟩ := DataW.trod_int Tryz.underlying3 g4
  simp at e4
  subst e4
  obtain ⟨n5, e5, _, _⟩ := DataW.trod_int Tryz.underlying3 g5
  simp at e5
  subst e5
  obtain ⟨n6, e6, _, _⟩ := DataW.trod_int Tryz.underlying3 g6
  simp at e6
  subst e6
  obtain ⟨n7, e7, _, _⟩ := DataW.trod_int Tryz.underlying3 g7
  simp at e7
  subst e7
  obtain ⟨ds, r8⟩ := rdWrS_of (E := 150) Tryz.underlying49 Tryz.underlying150 (by kernel_rfl) rfl rfl (by kernel_rfl) (by kernel_rfl) Tryz.underlying3 Tryz.underlying30 Tryz.underlying3 (by kernel_rfl) g8
  obtain ⟨ad, cd, rfl⟩ := row_shape r8
  obtain ⟨n9, e9, _, _⟩ := DataW.trod_int Tryz.underlying3 g9
  simp at e9
  subst e9
  obtain ⟨n10, e10, _⟩ := DataW.trod_bool Tryz.underlying4 g10
  simp at e10
  subst e10
  obtain ⟨n11, e11, _⟩ := DataW.trod_bool Tryz.underlying4 g11
  simp at e11
  subst e11
  exact ⟨⟨n0, nn, ns, n3, n4, n5, n6, n7, n9, n10, n11⟩, am, ad, cm, cd, ms, ds, rfl, r2, r8⟩

end
end Go.Proofs.YtianjijbmiebgaaGreat

namespace Go.Proofs.YtianjijbmiebgaaGreat.fnExactFlushAll
open Go.ChangeShapes Go.WideShapes Go.ChangeAt Go.RowKit Go.Joins
open Go.ChangeMaps (open_string shut_string)
set_option linter.unusedVariables false

theorem own : ownKnob Tryz.prog.godebug = none := by kernel_rfl
theorem laidOut : laidOutB Tryz.prog = true := by kernel_rfl

theorem lifted (os : Os) (started : os.Started) (H : Type) (enc : TypeId × Value -> H) :
 ReturnsInHanded {} Tryz.checked os 7 .any (Rows.fnExactFlushAllSpec.pre6 enc Tryz.prog Tryz.f7 Rows.fnExactFlushAllRow.domain false) (Rows.fnExactFlushAllSpec.post enc Tryz.prog Tryz.f7 false true false false) := by
 refine returnsInHanded_of_change (C := Tryz.checked) own started (by kernel_rfl) Tryz.func7
  (ChangeSpec.witness6 (enc := enc) (C := Tryz.checked) false ⟨#[], #[.agg #[.int .i64 0, .int .i64 0, .int .i64 0, .slice none 0 0, .int .i64 0, .int .i64 0, .int .i64 0, .int .i64 0, .int .i64 0, .slice none 0 0, .int .i64 0, .bool false, .bool false]], []⟩ 8 (by kernel_rfl) (by kernel_rfl) (by kernel_rfl) (by kernel_rfl)) ?_
 intro W base args ds gs before hval0 hW hcnd _
 have hval : ∀ (j : Nat) t v, Tryz.f7.params[j]? = some t -> args[j]? = some v -> Value.okWide Tryz.prog W .any base t v := hval0
 have hW' := hW
 obtain ⟨p, q, hA0, hV, rfl, hfz, hnd⟩ := hW
 have hA : DataW.TrodAll enc Tryz.prog W 0 (fun _ => true) true Tryz.f7.params.toList args.toList ds p := hA0
 rw [Tryz.params7] at hA hval
 obtain ⟨v0, vs0, d0, ds0, p0, q0, hargs0, rfl, rfl, h0, r0⟩ := trodAll_cons hA
 obtain ⟨rfl, rfl, rfl⟩ := trodAll_nil r0
 obtain rfl : args = #[v0] := by cases args; simp_all
 obtain ⟨rfl, rfl⟩ := trodVars_none hV
 have k0 := h0
 have lt0 : ∀ x ∈ p0, x.block < W.heap.size := by obtain ⟨m, hm⟩ := k0; exact DataW.trod_lt m _ _ _ hm
 obtain ⟨x0, am0, ad0, cm0, cd0, ms0, ds0, rfl, g0m, g0d⟩ := open_arr (hval 0 51 v0 rfl rfl) h0
 clear hA0 hval0
 refine (fnExactFlushAll_walk x0 am0 ad0 ms0.length cm0 ds0.length cd0 ms0 ds0 W g0m g0d).mono fun e W' ⟨he, bel⟩ => ?_
 subst he
 exact ⟨_, rfl, _, _, _, [], _, [], hW', trodAll_mk1 (shut_bool Tryz.underlying4 _), (trodAll_cons_mk (Below.trod laidOut (by kernel_rfl) (of_decide_eq_true (by kernel_rfl)) k0 bel lt0) trodAll_mk0), rfl, bel.frame _, fun h => by cases h⟩

theorem over : Rows.fnExactFlushAllRow.holds Tryz.pinned (OpenSpec.ofChange Rows.fnExactFlushAllSpec) :=
 OpenClaim.holds_of_wide 7 Tryz.f7 rfl rfl rfl rfl rfl rfl rfl ⟨rfl, rfl, rfl, rfl, rfl⟩ rfl rfl rfl rfl rfl (by kernel_rfl) Tryz.func7 (by kernel_rfl)
  (of_decide_eq_true (by kernel_rfl)) (by unfold Func.isWrapper; first | (rw [if_pos (by decide +kernel)]; kernel_rfl) | (rw [if_neg (by decide +kernel)]; exact ⟨rfl, rfl⟩))
  (fun os started H enc _ => lifted os started H enc)
end Go.Proofs.YtianjijbmiebgaaGreat.fnExactFlushAll

namespace Go.Proofs.YtianjijbmiebgaaGreat
theorem fnExactFlushAll_holds : Rows.FnExactFlushAllSaid := fnExactFlushAll.over
#print axioms fnExactFlushAll_holds
end Go.Proofs.YtianjijbmiebgaaGreat

