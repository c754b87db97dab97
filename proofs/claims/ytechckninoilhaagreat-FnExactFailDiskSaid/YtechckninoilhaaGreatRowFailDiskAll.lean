/-
 The exact law of FailDisk holds: at every array, bent or not, and every number of a disk the program makes of it what the specification does, every field, writes into no argument, and its answer owns its memory.
-/
import Derived.Test.YtechckninoilhaaGreatRowFailDiskAll2
import Derived.Test.YtechckninoilhaaGreatWalkDel
import Derived.Test.YtechckninoilhaaGreatHeld
import Derived.Test.YtechckninoilhaaGreatWalkFlush
import Derived.Test.YtechckninoilhaaGreatOrder
import Derived.Test.YtechckninoilhaaGreatWalkWriteSuper
import Derived.Test.YtechckninoilhaaGreatRowFailDiskAll3
import Derived.Test.YtechckninoilhaaGreatWalkFail
import Derived.Test.YtechckninoilhaaGreatRowFailDiskAll4
import Derived.Test.YtechckninoilhaaGreatWalkArr
import Derived.Test.YtechckninoilhaaGreatWalkInts
import Derived.Test.YtechckninoilhaaGreatWalkMark
import Derived.Test.YtechckninoilhaaGreatWalkSz
import Derived.ProofKit
import Derived.OpenShut
import Derived.Lib.SmallJoins
import Derived.Deep.Slices
import Derived.Deep.SlicePairs
import Derived.Test.YtechckninoilhaaGreatRows
import Derived.WalkKit
import Derived.ShutString
import Derived.ChangeOld
import Derived.Below

set_option maxRecDepth 100000
set_option maxHeartbeats 8000000
set_option linter.unusedSimpArgs false

namespace Go.Proofs.YtechckninoilhaaGreat
open Go.RowKit

theorem burn_any (w : World) (B : Nat) (x : ArrN) (ms : List MemD) (ds : List (Int × List Int)) (fm fd : List Nat) (h : ArrAt w B x ms ds fm fd) (hf : x.fuse <= 1000) (hdn : x.down = false) :
 Calls Tryz.prog 146 #[.pointer (some ⟨B, 0, none⟩)] w fun e w' => EndOf (opX x) e /\ ArrAt w' B (opX x) ms ds fm fd /\ Moved B fm w fm w' := by
 obtain ⟨bm, bd, cm, cd, X, hm, hd, hr, r1, r2⟩ := h
 unfold arrC at X
 obtain ⟨k0, k1, k2, k3, k4, k5, k6, k7, k8, k9, k10, k11, k12⟩ := X.cells13
 have fz := X.frozen
 by_cases h0 : x.fuse = 0
 . have HX : Hid (opX x = {x with down := true, fuse := -1}) := by unfold Hid opX; rw [if_neg (by simp [hdn]), if_pos h0]
   have Y := (X.set 11 (.bool true)).set 10 (.int .i64 (-1))
   have M := hidden ((hm.setCell (g := B) (j := 11) r1 (.bool true)).setCell (g := B) (j := 10) r1 (.int .i64 (-1)))
   have D := hidden ((hd.setCell (g := B) (j := 11) r2 (.bool true)).setCell (g := B) (j := 10) r2 (.int .i64 (-1)))
   have MV := hidden ((Moved.set (B := B) (j := 11) (fm := fm) (w := w) (.bool true)).trans (Moved.set (B := B) (j := 10) (.int .i64 (-1))))
   have YH := hidden Y
   have HE : Hid (EndOf (opX x) (.panicked goneC)) := EndOf.gone (by rw [HX.out])
   rw [h0] at k10
   clear Y X hm hd hdn h0
   go_enter Tryz.func146, Tryz.ntmps146
   go_wp2
   refine ⟨rfl, HE.out, ?_, MV.out⟩
   rw [HX.out]; exact ⟨bm, bd, cm, cd, YH.out, M.out, D.out, hr, r1, r2⟩
 have e0 : (x.fuse == 0) = false := by simpa using h0
 by_cases h1 : 0 < x.fuse
 . have hw : IntKind.i64.wrap (x.fuse - 1) = x.fuse - 1 := IntWalk.i64_in _ (by omega)
   have HX : Hid (opX x = {x with fuse := x.fuse - 1}) := by unfold Hid opX; rw [if_neg (by simp [hdn]), if_neg h0, if_pos h1]
   have HE : Hid (EndOf (opX x) (.returned (.tuple #[]))) := EndOf.fine (by rw [HX.out]; exact hdn)
   have YH := hidden (X.set 10 (.int .i64 (x.fuse - 1)))
   have M := hidden (hm.setCell (g := B) (j := 10) r1 (.int .i64 (x.fuse - 1)))
   have D := hidden (hd.setCell (g := B) (j := 10) r2 (.int .i64 (x.fuse - 1)))
   have MV := hidden (Moved.set (B := B) (j := 10) (fm := fm) (w := w) (.int .i64 (x.fuse - 1)))
   clear X hm hd hdn h0
   go_enter Tryz.func146, Tryz.ntmps146
   go_wp2
   refine bodyPost_end (v := .tuple #[]) (results_none rfl _ _ _) rfl ?_
   exact ⟨HE.out, by rw [HX.out]; exact ⟨bm, bd, cm, cd, YH.out, M.out, D.out, hr, r1, r2⟩, MV.out⟩
 have HX : Hid (opX x = x) := by unfold Hid opX; rw [if_neg (by simp [hdn]), if_neg h0, if_neg h1]
 have HE : Hid (EndOf (opX x) (.returned (.tuple #[]))) := EndOf.fine (by rw [HX.out]; exact hdn)
 have YH := hidden X
 clear hdn h0 X
 go_enter Tryz.func146, Tryz.ntmps146
 go_wp2
 refine bodyPost_end (v := .tuple #[]) (results_none rfl _ _ _) rfl ?_
 exact ⟨HE.out, by rw [HX.out]; exact ⟨bm, bd, cm, cd, YH.out, hm, hd, hr, r1, r2⟩, Moved.refl _ _ _⟩

theorem perform_any (w : World) (B : Nat) (x : ArrN) (ms : List MemD) (ds : List (Int × List Int)) (fm fd : List Nat) (h : ArrAt w B x ms ds fm fd) (hf : x.fuse <= 1000) (hdn : x.down = false) (hM : MsOk ms)
 (bo : Option Addr) (co : Nat) (ops : List DOp) (fo : List Nat) (ho : (tOps B).Mine w [.slice bo ops.length co] ops fo) (hdis : ∀ b ∈ fo, b ≠ B /\ b ∉ fm) (hop : ∀ o ∈ ops, o.1 < ms.length /\ flagAt ms o.1 = false) :
 Calls Tryz.prog 116 #[.pointer (some ⟨B, 0, none⟩), .slice bo ops.length co] w (Did w B fm ds fd (runS (x, ms) ops)) := by
 have HK := hidden (fun j : Nat => runS_keeps (q := (x, ms)) hM hf (ops.take j))
 have HF := hidden (fun j k : Nat => runS_flag (x, ms) (ops.take j) k)
 have H0 := hidden h
 have hlo := ho.lt
 have hmx := (row_length ho.rd).2
 have HO := hidden ho
 have HD := hidden hdis
 have HP := hidden hop
 have HN : Hid (x.down = false) := hdn
 have zz := h.lt
 have zm := h.ltm.1
 clear h ho hdis hop hdn
 have hS : ∀ wr fm1, Moved B fm w fm1 wr -> Turned (B :: fm) w wr /\ ∀ b ∈ fm1, b ∈ fm ∨ w.heap.size <= b := fun _ _ h => h
 go_enter Tryz.func116, Tryz.ntmps116
 go_wp2
 go_loopw [8] (fun i wr => ∃ (j : Nat) (fm1 : List Nat), j <= ops.length /\ i = .int .i64 j /\ (runS (x, ms) (ops.take j)).1.down = false /\ ArrAt wr B (runS (x, ms) (ops.take j)).1 (runS (x, ms) (ops.take j)).2 ds fm1 fd /\ Moved B fm w fm1 wr) (fun i _ => ops.length - (intOf i).toNat)
 case atStart => exact ⟨0, fm, Nat.zero_le _, rfl, HN.out, H0.out, Moved.refl _ _ _⟩
 obtain ⟨j, fm1, hj, rfl, hdj, hA, hMv⟩ := hrel
 obtain ⟨hMj, hsj, hlj⟩ := HK.out j
 have hfj := hsj.2.2.2.2.2.2.2.2.2.1
 by_cases hjn : j < ops.length
 . have i2 : (j : Int) < (ops.length : Int) := by omega
   have i1 : (0 : Int) <= (j : Int) := by omega
   have hoj : ops[j]? = some (ops[j]'hjn) := List.getElem?_eq_getElem hjn
   obtain ⟨p1, p2⟩ := HP.out _ (List.mem_of_getElem? hoj)
   generalize ops[j]'hjn = o at hoj p1 p2
   have HS := hidden (runS_next (q := (x, ms)) hoj)
   have HE := hidden (fun h => runS_end (q := (x, ms)) (ops := ops) (j := j + 1) h)
   have hfl := (HF.out j o.1).trans p2
   generalize hst : runS (x, ms) (ops.take j) = st at hA hMj hsj hlj hfj HS hdj hfl
   obtain ⟨y, ns⟩ := st
   dsimp only at hA hMj hsj hlj hfj hdj hfl
   clear hst
   obtain ⟨g, F, cp, fp, rfl, hg, hc, hen, hfp, hrun⟩ := dop_at HO.out hoj
   have hgf : g ∈ fo := by
    obtain ⟨hh, _⟩ := HO.out
    rcases hh with ⟨h1, _⟩ | ⟨b, cap', cur, fps, h1, _, _, _, _, h6, _⟩
    . simp at h1
    simp at h1; rw [h6, h1.1]; exact List.mem_cons_self
   have hnf : ∀ b ∈ fo, b ∉ (B :: fm) := fun b hb hm => by
    rcases List.mem_cons.1 hm with e | hm
    . exact (HD.out b hb).1 e
    exact (HD.out b hb).2 hm
   have hcr : wr.cell? ⟨g, j, none⟩ = some (.func (Fn.func F) #[] cp) := (World.cell?_of_block (w := w) (hMv.1.block g hg (hnf g hgf))).trans hc
   have MV := hidden hMv
   have HA := hidden hA
   have HR := hidden hrun
   have HFP := hidden hfp
   have HNF := hidden hnf
   clear hA hMv hrun hfp hnf hc
   go_wp2_with fail
   refine (burn_any _ B y ns ds fm1 fd HA.out hfj hdj).mono ?_
   rintro e w1 ⟨he, hA1, hMv1⟩
   cases hob : opB y
   . have hdd := opX_no hob
     unfold EndOf at he
     rw [if_pos hdd] at he
     subst he
     have hget : ns[o.1]? = some (ns.getD o.1 memZ) := by rw [List.getD_eq_getElem?_getD, List.getElem?_eq_getElem (by omega)]; rfl
     have HV : Hid (runS (x, ms) ops = (opX y, ns)) := by
      have h9 : runS (x, ms) (ops.take (j + 1)) = (opX y, ns) := HS.out.trans (doS_no hget hfl hob)
      exact (HE.out (by rw [h9]; exact hdd)).trans h9
     have HD2 : Hid (Did w B fm ds fd (runS (x, ms) ops) (.panicked goneC) w1) := by
      unfold Hid Did
      rw [HV.out]
      exact ⟨EndOf.gone hdd, fm1, hA1, MV.out.trans hMv1⟩
     clear hA1 hMv1
     go_wp2
     exact ⟨rfl, HD2.out⟩
   have hdd := opX_yes hob
   unfold EndOf at he
   rw [if_neg (by simp [hdd])] at he
   subst he
   have hget : ns[o.1]? = some (ns.getD o.1 memZ) := by rw [List.getD_eq_getElem?_getD, List.getElem?_eq_getElem (by omega)]; rfl
   have HV : Hid (runS (x, ms) (ops.take (j + 1)) = (opX y, ns.set o.1 (opF o (opX y) (ns.getD o.1 memZ)))) := by
    refine HS.out.trans ((doS_yes hget hfl hob).trans ?_)
    rw [opF_opX]
   have MV1 := hidden (MV.out.trans hMv1)
   have hsz := MV1.out.size
   have R1 := HR.out w1 (fun b hb => MV1.out.1.block b (hlo b (HFP.out b hb)) (HNF.out b (HFP.out b hb))) hsz (opX y) ns ds fm1 fd hA1 hMj (fun b hb => ⟨(HD.out b (HFP.out b hb)).1, fun hm => by
    rcases MV.out.2 b hm with h1 | h1
    . exact (HD.out b (HFP.out b hb)).2 h1
    have := hlo b (HFP.out b hb); omega⟩) (by omega)
   have RH := hidden R1
   clear hA1 hMv1 R1
   have hcf : ∀ w : World, Sem.run Tryz.prog (callFunc F cp) w = .ok (.enter F cp) w := hen
   go_wp2_with fail
   refine RH.out.mono ?_
   rintro e w2 ⟨rfl, fm2, hA2, hMv2⟩
   have HB := hidden (MV1.out.trans hMv2)
   have HA2 := hidden hA2
   clear hA2 hMv2 hcr
   go_wp2
   go_roundw
   case rel => exact ⟨j + 1, fm2, by omega, by go_num, by rw [HV.out]; exact hdd, by rw [HV.out]; exact HA2.out, HB.out⟩
   case measure => simp [intOf]; omega
 have ej : j = ops.length := by omega
 have i2 : ¬ (j : Int) < (ops.length : Int) := by omega
 subst ej
 rw [List.take_length] at hA hdj
 have HD2 : Hid (Did w B fm ds fd (runS (x, ms) ops) (.returned (.tuple #[])) wr) := ⟨EndOf.fine hdj, fm1, hA, hMv⟩
 clear hA hMv
 go_wp2
 refine bodyPost_end (v := .tuple #[]) (results_none rfl _ _ _) rfl ?_
 exact HD2.out

theorem Tryz.infoOp : (Tryz.prog.info? 131).map (fun i => (i.zero, i.size, i.bytes)) = some (some .nilFunc, 1, 8) := by kernel_rfl

theorem opsOf_any (w : World) (B : Nat) (x : ArrN) (ms : List MemD) (ds : List (Int × List Int)) (fm fd : List Nat) (h : ArrAt w B x ms ds fm fd) (hl : ms.length <= 2097152) (K : Nat -> DOp) (F : FuncId) (cap : Array Value)
 (hen : ∀ m : Nat, Enters F (#[.int .i64 (m : Int)] ++ cap)) (hop : ∀ (m : Nat) (w' : World), m < ms.length -> Below w.heap.size w w' -> Calls Tryz.prog F (#[.int .i64 (m : Int)] ++ cap) w' fun e w'' => ∃ v, e = .returned v /\ (opTy B).Own w'' w'.heap.size w''.heap.size [v] (K m) /\ Below w'.heap.size w' w'') :
 Calls Tryz.prog 147 #[.pointer (some ⟨B, 0, none⟩), .func (Fn.func F) #[] cap] w fun e w' => ∃ bo co, e = .returned (.slice bo (opsL K ms ms.length).length co) /\ (tOps B).Own w' w.heap.size w'.heap.size [.slice bo (opsL K ms ms.length).length co] (opsL K ms ms.length) /\ Below w.heap.size w w' := by
 obtain ⟨i4, hi4, hz0, hz1, hz2⟩ := info_parts Tryz.infoOp
 obtain ⟨bm, bd, cm, cd, X, hmm, hdd, hr, r1, r2⟩ := h
 have zB := X.lt
 have k3 : w.cell? ⟨B, 3, none⟩ = some (.slice bm ms.length cm) := by
  unfold arrC at X
  exact X.cells13.2.2.2.1
 have hmx := (row_length hmm.rd).2
 have ML := hidden (lit0_mine (t := opTy B) (E := 131) w)
 have HB0 := hidden (new_below w (.cells #[] 131))
 have MM := hidden hmm
 have HOP := hidden hop
 have k3' : (w.alloc (.cells #[] 131)).cell? ⟨B, 3, none⟩ = some (.slice bm ms.length cm) := (HB0.out.cell (p := ⟨B, 3, none⟩) zB).trans k3
 clear hmm hdd X hop
 go_enter Tryz.func147, Tryz.ntmps147
 go_wp2
 go_loopw [5, 14] (fun v i wr => ∃ (j : Nat) (fp : List Nat), j <= ms.length /\ i = .int .i64 j /\ (tOps B).Mine wr [v] (opsL K ms j) fp /\ (∀ b ∈ fp, w.heap.size <= b) /\ Below w.heap.size w wr) (fun _ i _ => ms.length - (intOf i).toNat)
 case atStart => exact ⟨0, [w.heap.size], Nat.zero_le _, rfl, ML.out, by simp, HB0.out⟩
 obtain ⟨j, fp, hj, rfl, hm, hfp, hb⟩ := hrel
 have hs := hb.size
 by_cases hjn : j < ms.length
 . have i2 : (j : Int) < (ms.length : Int) := by omega
   have i1 : (0 : Int) <= (j : Int) := by omega
   obtain ⟨g, rfl⟩ := row_head MM.out (by omega)
   have hdj : ms[j]? = some (ms[j]'(by omega)) := List.getElem?_eq_getElem (by omega)
   generalize ms[j]'(by omega) = d at hdj
   obtain ⟨hgl, a0, a1, a3, c0, c1, c3, ss, cs, f, bs, rfl, q0, q1, q2, q3, _, _, _⟩ := disk_at MM.out hdj
   have p0 := (hb.cell (p := ⟨g, j * 4, none⟩) hgl).trans q0
   have p1 := (hb.cell (p := ⟨g, j * 4 + 1, none⟩) hgl).trans q1
   have p2 := (hb.cell (p := ⟨g, j * 4 + 2, none⟩) hgl).trans q2
   have p3 := (hb.cell (p := ⟨g, j * 4 + 3, none⟩) hgl).trans q3
   have hfl : flagAt ms j = f := by unfold flagAt; rw [getD_at hdj]
   have HL := hidden (opsL_succ K ms j)
   rw [hfl] at HL
   clear q0 q1 q2 q3 hdj hfl
   cases f
   . have HL2 : Hid (opsL K ms (j + 1) = opsL K ms j ++ [K j]) := HL.out
     have hkl := opsL_len K ms j
     have L1 : Hid ((opsL K ms j).length + 1 <= maxLen) := by unfold Hid maxLen; omega
     have L2 : Hid (((opsL K ms j).length + 1) * 8 <= 140737488355328) := by unfold Hid; omega
     have HM := hidden hm
     have HFP := hidden hfp
     have HB := hidden hb
     have hcf : ∀ w : World, Sem.run Tryz.prog (callFunc F (#[.int .i64 (j : Int)] ++ cap)) w = .ok (.enter F (#[.int .i64 (j : Int)] ++ cap)) w := hen j
     clear hm hfp hb HL hkl
     go_wp2_with fail
     have bA := Below.andThen HB.out (new_below wr (.cells #[.slice a0 ss.length c0, .slice a1 cs.length c1, .bool false, .slice a3 bs.length c3] 51))
     refine (HOP.out j _ hjn bA).mono ?_
     rintro e w1 ⟨v, rfl, ov, b1⟩
     obtain ⟨fpx, mx, rx⟩ := ov.mine
     obtain ⟨F1, cp1, hv, _⟩ := mx.1
     have hv' : v = .func (Fn.func F1) #[] cp1 := by simpa using hv
     subst hv'
     have bw1 := Below.andThen (new_below wr (.cells #[.slice a0 ss.length c0, .slice a1 cs.length c1, .bool false, .slice a3 bs.length c3] 51)) b1
     have bB := new_below w1 (.cells #[.func (Fn.func F1) #[] cp1] 131)
     have zA : (wr.alloc (.cells #[.slice a0 ss.length c0, .slice a1 cs.length c1, .bool false, .slice a3 bs.length c3] 51)).heap.size = wr.heap.size + 1 := by simp
     have z1 := b1.size
     have z2 : (w1.alloc (.cells #[.func (Fn.func F1) #[] cp1] 131)).heap.size = w1.heap.size + 1 := by simp
     have M1 := hidden ((HM.out.below bw1).alloc (.cells #[.func (Fn.func F1) #[] cp1] 131))
     have M2 := hidden (mx.alloc (.cells #[.func (Fn.func F1) #[] cp1] 131))
     have NN := hidden (news_new w1 #[.func (Fn.func F1) #[] cp1] 131)
     have hfl := HM.out.lt
     have DJ : Hid (∀ b ∈ fp, b ∉ fpx) := fun b hb hb' => by
      have h1 := hfl b hb
      have h2 := rx b hb'
      omega
     have RX := hidden rx
     have BB := hidden (Below.andThen bA (Below.andThen b1 bB))
     clear ov mx rx hv bA bw1 bB b1 hfl
     go_wp2_with (at_builtin; refine wpList_appT (opTy B) rfl _ _ 121 rfl 131 i4 .nilFunc 8 Tryz.underlying121 hi4 hz0 hz1 hz2 rfl Nat.zero_lt_one u5 (opsL K ms j) fp rfl ?_ ⟨w1.heap.size, 0, none⟩ 1 [.func (Fn.func F1) #[] cp1] (K j) fpx rfl ?_ ?_ ?_ ?_ ?_ ?_ ?_; exact M1.out; exact M2.out; exact DJ.out; exact NN.out; (intro u hu; simp at hu; rw [hu]; rfl); exact L1.out; exact L2.out; intro v2 w2 fp2 m1 m2 m3; rw [← HL2.out] at m1; have N1 := hidden m1; have N2 := hidden m2; have N3 := hidden m3; clear m1 m2 m3)
     have hf2 : ∀ b ∈ fp2, w.heap.size <= b := fun b hb => by
      rcases N2.out b hb with h | h | h
      . exact HFP.out b h
      . have := RX.out b h
        omega
      have h1 := h.1
      omega
     have HBB := hidden (BB.out.trans (N3.out.below (N := w.heap.size) (by omega) (fun b hb => HFP.out b hb)))
     have HF2 := hidden hf2
     clear hf2
     go_roundw
     case rel => exact ⟨j + 1, fp2, by omega, by go_num, N1.out, HF2.out, HBB.out⟩
     case measure => simp [intOf]; omega
   have HL2 : Hid (opsL K ms (j + 1) = opsL K ms j) := by unfold Hid; rw [HL.out, if_pos rfl, List.append_nil]
   have HM := hidden (hm.alloc (.cells #[.slice a0 ss.length c0, .slice a1 cs.length c1, .bool true, .slice a3 bs.length c3] 51))
   have HB := hidden (Below.andThen hb (new_below wr (.cells #[.slice a0 ss.length c0, .slice a1 cs.length c1, .bool true, .slice a3 bs.length c3] 51)))
   have HFP := hidden hfp
   clear hm hb hfp HL
   go_wp2
   go_roundw
   case rel => exact ⟨j + 1, fp, by omega, by go_num, by rw [HL2.out]; exact HM.out, HFP.out, HB.out⟩
   case measure => simp [intOf]; omega
 have e : j = ms.length := by omega
 subst e
 have hltb := hm.lt
 obtain ⟨bo, co, hv⟩ := row_shape hm.rd
 subst hv
 have HO := hidden (hm.own (lo := w.heap.size) (hi := wr.heap.size) (fun b hb' => ⟨hfp b hb', hltb b hb'⟩))
 have i2 : ¬ ((ms.length : Int) < (ms.length : Int)) := by omega
 clear hm
 go_wp2
 go_ret
 exact ⟨_, _, rfl, HO.out, hb⟩

theorem flushOp1_runs (w : World) (B p q m : Nat) (hp : Box w p 53 #[.pointer (some ⟨B, 0, none⟩)]) (hq : Box w q 3 #[.int .i64 (m : Int)]) : OpRuns B [p, q] 173 #[.pointer (some ⟨p, 0, none⟩), .pointer (some ⟨q, 0, none⟩)] (flushK m) w := by
 intro x ms ds fm fd hA hM hdis hlt
 dsimp only [flushK] at hlt
 obtain ⟨bm, bd, cm, cd, X, hmm, hdd, hr, r1, r2⟩ := hA
 have hm63 := (row_length hmm.rd).2
 obtain ⟨g, rfl⟩ := row_head hmm (by omega)
 have hdj : ms[m]? = some (ms[m]'(by omega)) := List.getElem?_eq_getElem (by omega)
 generalize ms[m]'(by omega) = d at hdj
 have hgm : ms.getD m memZ = d := getD_at hdj
 obtain ⟨hgl, a0, a1, a3, c0, c1, c3, ss, cs, f, bs, rfl, q0, q1, q2, q3, p0, p1, p3⟩ := disk_at hmm hdj
 have X0 := X
 unfold arrC at X0
 obtain ⟨k0, k1, k2, k3, k4, k5, k6, k7, k8, k9, k10, k11, k12⟩ := X0.cells13
 have zp := hp.lt
 have cp := hp.cell 0
 have zq := hq.lt
 have cq := hq.cell 0
 have hwt := memB_light (hM m _ hdj) f
 dsimp only at hwt
 have zB := X.lt
 have XH := hidden X
 have MH := hidden hmm
 have DH := hidden hdd
 have R0 := hidden p0
 have R1 := hidden p1
 have R3 := hidden p3
 have HG := hidden hgm
 have hS : w.drew.cell? ⟨p, 0, none⟩ = some (.pointer (some ⟨B, 0, none⟩)) /\ w.drew.cell? ⟨q, 0, none⟩ = some (.int .i64 (m : Int)) /\ w.drew.cell? ⟨B, 3, none⟩ = some (.slice (some ⟨g, 0, none⟩) ms.length cm) /\ w.drew.cell? ⟨g, m * 4, none⟩ = some (.slice a0 ss.length c0) /\ w.drew.cell? ⟨g, m * 4 + 1, none⟩ = some (.slice a1 cs.length c1) /\ w.drew.cell? ⟨g, m * 4 + 2, none⟩ = some (.bool f) /\ w.drew.cell? ⟨g, m * 4 + 3, none⟩ = some (.slice a3 bs.length c3) := ⟨cp, cq, k3, q0, q1, q2, q3⟩
 have i1 : (0 : Int) <= (m : Int) := by omega
 have i3 : (m : Int) < (ms.length : Int) := by omega
 clear X X0 hmm hdd p0 p1 p3 hM hdj hgm hdis
 go_enter Tryz.func173, Tryz.ntmps173
 go_wp2_with fail
 refine Upto.start (S := fun w' => w'.cell? ⟨p, 0, none⟩ = some (.pointer (some ⟨B, 0, none⟩)) /\ w'.cell? ⟨q, 0, none⟩ = some (.int .i64 (m : Int)) /\ w'.cell? ⟨B, 3, none⟩ = some (.slice (some ⟨g, 0, none⟩) ms.length cm) /\ w'.cell? ⟨g, m * 4, none⟩ = some (.slice a0 ss.length c0) /\ w'.cell? ⟨g, m * 4 + 1, none⟩ = some (.slice a1 cs.length c1) /\ w'.cell? ⟨g, m * 4 + 2, none⟩ = some (.bool f) /\ w'.cell? ⟨g, m * 4 + 3, none⟩ = some (.slice a3 bs.length c3)) (k := 14) (by kernel_rfl) ?_
 refine Upto.t 0 hS ?_
 refine Upto.t 1 hS ?_
 refine Upto.t 2 hS ?_
 refine Upto.t 3 hS ?_
 refine Upto.t 4 hS ?_
 refine Upto.t 5 hS ?_
 refine Upto.t 6 hS ?_
 refine Upto.t 7 hS ?_
 refine Upto.t 8 hS ?_
 refine Upto.t 9 hS ?_
 refine Upto.t 10 hS ?_
 refine Upto.t 11 hS ?_
 refine Upto.one (i := 12) (by kernel_rfl) rfl (fun K hK => ?_)
 go_simp
 refine (implFlushMem_any _ 109 _ _ _ _ _ _ _ _ _ ss cs f bs R0.out.drew R1.out.drew R3.out.drew (by omega)).mono ?_
 rintro e w2 ⟨u0, u1, u3, rfl, o2, b2'⟩
 have b2 : Below w.heap.size w w2 := (Below.refl w.heap.size w).drew.trans b2'
 have o2b : (tMem 109).Own w2 w.heap.size w2.heap.size [u0, u1, .bool f, u3] _ := o2
 obtain ⟨d0, l0, f0, d1, l1, f1, d3, l3, f3, hv0, hv1, hv3⟩ := mem_slices o2b
 subst hv0 hv1 hv3
 obtain ⟨fpx, mx, rx⟩ := o2b.mine
 obtain ⟨cOld, fz, hgm, fm9, hA9, hMv9⟩ := arr_store (m := m) XH.out MH.out DH.out hr r1 r2 b2 (by omega) mx (fun b hb => (rx b hb).1)
 obtain ⟨o0, t0⟩ := cOld 0 (by omega)
 obtain ⟨o1, t1⟩ := cOld 1 (by omega)
 obtain ⟨o2', t2⟩ := cOld 2 (by omega)
 obtain ⟨o3, t3⟩ := cOld 3 (by omega)
 rw [Nat.add_zero] at t0
 have HA := hidden hA9
 have HMV := hidden hMv9
 have hS2 : w2.cell? ⟨p, 0, none⟩ = some (.pointer (some ⟨B, 0, none⟩)) /\ w2.cell? ⟨q, 0, none⟩ = some (.int .i64 (m : Int)) /\ w2.cell? ⟨B, 3, none⟩ = some (.slice (some ⟨g, 0, none⟩) ms.length cm) /\ w2.cell? ⟨g, m * 4, none⟩ = some (.slice a0 ss.length c0) /\ w2.cell? ⟨g, m * 4 + 1, none⟩ = some (.slice a1 cs.length c1) /\ w2.cell? ⟨g, m * 4 + 2, none⟩ = some (.bool f) /\ w2.cell? ⟨g, m * 4 + 3, none⟩ = some (.slice a3 bs.length c3) := ⟨(b2.cell (p := ⟨p, 0, none⟩) zp).trans cp, (b2.cell (p := ⟨q, 0, none⟩) zq).trans cq, (b2.cell (p := ⟨B, 3, none⟩) zB).trans k3, (b2.cell (p := ⟨g, m * 4, none⟩) hgl).trans q0, (b2.cell (p := ⟨g, m * 4 + 1, none⟩) hgl).trans q1, (b2.cell (p := ⟨g, m * 4 + 2, none⟩) hgl).trans q2, (b2.cell (p := ⟨g, m * 4 + 3, none⟩) hgl).trans q3⟩
 have gB : ¬ g = B := fun e => r1 (e ▸ hgm)
 unfold put4 at HA HMV
 clear cp cq k3 q0 q1 q2 q3 o2 o2b b2 b2' mx rx cOld hA9 hMv9 XH MH DH R0 R1 R3 hwt
 go_wp2_with fail
 refine hK.out _ _ (fun _ => hS2) ?_
 clear hK K
 refine Upto.t 13 hS2 ?_
 refine Upto.one (i := 14) (by kernel_rfl) rfl (fun K hK => ?_)
 go_simp
 refine hK.out _ _ (fun h => absurd rfl h) ?_
 clear hK K
 refine Upto.done (by kernel_rfl) ?_ _
 clear hS hS2 t0 t1 t2 t3 fz
 go_wp2
 refine bodyPost_end (v := .tuple #[]) (results_none rfl _ _ _) rfl ?_
 refine ⟨rfl, fm9, ?_, HMV.out⟩
 show ArrAt _ B x (ms.set m (opF (flushK m) x (ms.getD m memZ))) ds fm9 fd
 rw [HG.out]
 exact HA.out

theorem flushOp_any (w : World) (B m : Nat) : Calls Tryz.prog 164 #[.pointer (some ⟨B, 0, none⟩), .int .i64 (m : Int)] w fun e w' => ∃ v, e = .returned v /\ (opTy B).Own w' w.heap.size w'.heap.size [v] (flushK m) /\ Below w.heap.size w w' := by
 have hmf : ∀ (fn : Fn) (first cap : Array Value) (w : World), (Instr.makeFunc fn first cap).run Tryz.prog w = .ok (.func fn first cap) w := fun _ _ _ _ => rfl
 have hb : Below w.heap.size w ((w.alloc (.cells #[.pointer (some ⟨B, 0, none⟩)] 53)).alloc (.cells #[.int .i64 (m : Int)] 3)) := ((Below.refl _ _).alloc (Nat.le_refl _) _).alloc (by simp) _
 have b0 : Box ((w.alloc (.cells #[.pointer (some ⟨B, 0, none⟩)] 53)).alloc (.cells #[.int .i64 (m : Int)] 3)) w.heap.size 53 #[.pointer (some ⟨B, 0, none⟩)] := (Box.new w _ _).alloc _
 have b1 := Box.new (w.alloc (.cells #[.pointer (some ⟨B, 0, none⟩)] 53)) 3 #[.int .i64 (m : Int)]
 rw [World.size_alloc] at b1
 have hsz : ((w.alloc (.cells #[.pointer (some ⟨B, 0, none⟩)] 53)).alloc (.cells #[.int .i64 (m : Int)] 3)).heap.size = w.heap.size + 1 + 1 := by simp
 have HO : Hid ((opTy B).Own ((w.alloc (.cells #[.pointer (some ⟨B, 0, none⟩)] 53)).alloc (.cells #[.int .i64 (m : Int)] 3)) w.heap.size ((w.alloc (.cells #[.pointer (some ⟨B, 0, none⟩)] 53)).alloc (.cells #[.int .i64 (m : Int)] 3)).heap.size [.func (Fn.func 173) #[] #[.pointer (some ⟨w.heap.size, 0, none⟩), .pointer (some ⟨w.heap.size + 1, 0, none⟩)]] (flushK m)) := by
  refine ⟨[w.heap.size, w.heap.size + 1], ⟨173, _, rfl, ?_, ?_, fun w' hk hs => ?_⟩, ?_, ?_⟩
  . exact enters_of Tryz.func173 (by kernel_rfl) (by kernel_rfl) _
  . intro b hb'; simp at hb'; omega
  . exact flushOp1_runs w' B _ _ m (b0.kept (hk _ (by simp))) (b1.kept (hk _ (by simp)))
  . simp
  intro b hb'; simp at hb'; omega
 have HB := hidden hb
 clear hb b0 b1 hsz
 go_enter Tryz.func164, Tryz.ntmps164
 go_wp2
 go_ret
 exact ⟨_, rfl, HO.out, HB.out⟩

theorem flushes1_any (w : World) (B p m : Nat) (hp : Box w p 53 #[.pointer (some ⟨B, 0, none⟩)]) : Calls Tryz.prog 163 #[.int .i64 (m : Int), .pointer (some ⟨p, 0, none⟩)] w fun e w' => ∃ v, e = .returned v /\ (opTy B).Own w' w.heap.size w'.heap.size [v] (flushK m) /\ Below w.heap.size w w' := by
 have c0 : w.cell? ⟨p, 0, none⟩ = some (.pointer (some ⟨B, 0, none⟩)) := hp.cell 0
 go_enter Tryz.func163, Tryz.ntmps163
 go_wp2_with fail
 refine (flushOp_any _ B m).mono ?_
 rintro e w1 ⟨v, rfl, ov, b1⟩
 have OV := hidden ov
 have B1 := hidden b1
 clear ov b1
 go_wp2
 go_ret
 exact ⟨_, rfl, OV.out, B1.out⟩

theorem flushes_any (w : World) (B : Nat) (x : ArrN) (ms : List MemD) (ds : List (Int × List Int)) (fm fd : List Nat) (h : ArrAt w B x ms ds fm fd) (hl : ms.length <= 2097152) : Calls Tryz.prog 150 #[.pointer (some ⟨B, 0, none⟩)] w fun e w' => ∃ bo co, e = .returned (.slice bo (opsL flushK ms ms.length).length co) /\ (tOps B).Own w' w.heap.size w'.heap.size [.slice bo (opsL flushK ms ms.length).length co] (opsL flushK ms ms.length) /\ Below w.heap.size w w' := by
 have hmf : ∀ (fn : Fn) (first cap : Array Value) (w : World), (Instr.makeFunc fn first cap).run Tryz.prog w = .ok (.func fn first cap) w := fun _ _ _ _ => rfl
 have bA := new_below w (.cells #[.pointer (some ⟨B, 0, none⟩)] 53)
 have bx := Box.new w 53 #[.pointer (some ⟨B, 0, none⟩)]
 have HA := hidden (h.alloc (.cells #[.pointer (some ⟨B, 0, none⟩)] 53))
 have hlt := bx.lt
 clear h
 go_enter Tryz.func150, Tryz.ntmps150
 go_wp2_with fail
 refine (opsOf_any _ B x ms ds fm fd HA.out hl flushK 163 #[.pointer (some ⟨w.heap.size, 0, none⟩)] (fun m => enters_of Tryz.func163 (by kernel_rfl) (by kernel_rfl) _) (fun m w' hm hb => ?_)).mono ?_
 . exact flushes1_any w' B _ m (bx.below hb hlt)
 rintro e w1 ⟨bo, co, rfl, oo, b1⟩
 have OO := hidden (oo.widen (lo' := w.heap.size) (hi' := w1.heap.size) (by simp) (Nat.le_refl _))
 have B1 := hidden (Below.andThen bA b1)
 clear oo b1 bA bx
 go_wp2
 go_ret
 exact ⟨_, _, rfl, OO.out, B1.out⟩

theorem syncDisks_any (w : World) (B : Nat) (x : ArrN) (ms : List MemD) (ds : List (Int × List Int)) (fm fd : List Nat) (h : ArrAt w B x ms ds fm fd) (hf : x.fuse <= 1000) (hdn : x.down = false) (hM : MsOk ms) (hl : ms.length <= 2097152) : Calls Tryz.prog 118 #[.pointer (some ⟨B, 0, none⟩)] w (Did w B fm ds fd (syncS (x, ms) ms.length)) := by
 have HA := hidden h
 have HR : Hid (runS (x, ms) (opsL flushK ms ms.length) = syncS (x, ms) ms.length) := run_sync (x, ms) ms.length
 have HF : Hid (x.fuse <= 1000 /\ x.down = false) := ⟨hf, hdn⟩
 have hlB := h.lt
 have hlm := h.ltm.1
 clear h hf hdn
 go_enter Tryz.func118, Tryz.ntmps118
 go_wp2_with fail
 refine (flushes_any _ B x ms ds fm fd HA.out hl).mono ?_
 rintro e w1 ⟨bo, co, rfl, oo, b1⟩
 obtain ⟨fo, mo, ro⟩ := oo.mine
 have HP := hidden (perform_any w1 B x ms ds fm fd (HA.out.below b1) HF.out.1 HF.out.2 hM bo co (opsL flushK ms ms.length) fo mo (fun b hb => ⟨fun e => by have := (ro b hb).1; omega, fun hm => by have h1 := (ro b hb).1; have h2 := hlm b hm; omega⟩) (fun o ho => by
  obtain ⟨i, hi, hfl, rfl⟩ := opsL_mem ho
  exact ⟨hi, hfl⟩))
 have MB := hidden ((Moved.refl B fm w).below b1)
 clear oo mo ro b1 hlm
 go_wp2_with fail
 refine HP.out.mono ?_
 rintro e w2 hd
 rw [HR.out] at hd
 obtain ⟨he, fm2, hA2, hMv2⟩ := hd
 have HD : Hid (Did w B fm ds fd (syncS (x, ms) ms.length) e w2) := ⟨he, fm2, hA2, MB.out.trans hMv2⟩
 unfold EndOf at he
 clear hA2 hMv2 HR
 cases hst : (syncS (x, ms) ms.length).1.down
 . rw [if_neg (by simp [hst])] at he
   subst he
   clear hst
   go_wp2
   refine bodyPost_end (v := .tuple #[]) (results_none rfl _ _ _) rfl ?_
   exact HD.out
 rw [if_pos hst] at he
 subst he
 clear hst
 go_wp2
 exact ⟨rfl, HD.out⟩

theorem superFor_any (w : World) (x : ArrN) (am ad : Option Addr) (nm cm nd cd : Nat) (m : Int) : Calls Tryz.prog 162 #[.agg #[.int .i64 x.id, .int .i64 x.n, .int .i64 x.s, .slice am nm cm, .int .i64 x.lost, .int .i64 x.built, .int .i64 x.seq, .int .i64 x.tail, .int .i64 x.gen, .slice ad nd cd, .int .i64 x.fuse, .bool x.down, .bool x.broken], .int .i64 m] w fun e w' => e = .returned (.agg #[.int .i64 x.id, .int .i64 x.gen, .int .i64 m, .int .i64 x.n, .int .i64 x.s, .int .i64 x.tail, .int .i64 x.lost, .int .i64 x.built]) /\ Below w.heap.size w w' := by
 have X : Box ((w.alloc (.cells #[.int .i64 x.id, .int .i64 x.n, .int .i64 x.s, .slice am nm cm, .int .i64 x.lost, .int .i64 x.built, .int .i64 x.seq, .int .i64 x.tail, .int .i64 x.gen, .slice ad nd cd, .int .i64 x.fuse, .bool x.down, .bool x.broken] 33)).alloc (.cells #[.int .i64 0, .int .i64 0, .int .i64 0, .int .i64 0, .int .i64 0, .int .i64 0, .int .i64 0, .int .i64 0] 114)) w.heap.size 33 #[.int .i64 x.id, .int .i64 x.n, .int .i64 x.s, .slice am nm cm, .int .i64 x.lost, .int .i64 x.built, .int .i64 x.seq, .int .i64 x.tail, .int .i64 x.gen, .slice ad nd cd, .int .i64 x.fuse, .bool x.down, .bool x.broken] := (Box.new w _ _).alloc _
 obtain ⟨k0, k1, k2, k3, k4, k5, k6, k7, k8, k9, k10, k11, k12⟩ := X.cells13
 clear X
 go_enter Tryz.func162, Tryz.ntmps162
 go_wp2
 refine bodyPost_ret (v := .agg #[.int .i64 x.id, .int .i64 x.gen, .int .i64 m, .int .i64 x.n, .int .i64 x.s, .int .i64 x.tail, .int .i64 x.lost, .int .i64 x.built]) (by simp [results, Tryz.results162, go_sem]) rfl ?_
 exact ⟨rfl, (new_below w _).alloc (by simp) _⟩

theorem superOp1_runs (w : World) (B p q m : Nat) (hp : Box w p 53 #[.pointer (some ⟨B, 0, none⟩)]) (hq : Box w q 3 #[.int .i64 (m : Int)]) : OpRuns B [p, q] 160 #[.pointer (some ⟨p, 0, none⟩), .pointer (some ⟨q, 0, none⟩)] (supK m) w := by
 intro x ms ds fm fd hA hM hdis hlt
 dsimp only [supK] at hlt
 obtain ⟨bm, bd, cm, cd, X, hmm, hdd, hr, r1, r2⟩ := hA
 have hm63 := (row_length hmm.rd).2
 obtain ⟨g, rfl⟩ := row_head hmm (by omega)
 have hdj : ms[m]? = some (ms[m]'(by omega)) := List.getElem?_eq_getElem (by omega)
 generalize ms[m]'(by omega) = d at hdj
 have hgm : ms.getD m memZ = d := getD_at hdj
 obtain ⟨hgl, a0, a1, a3, c0, c1, c3, ss, cs, f, bs, rfl, q0, q1, q2, q3, p0, p1, p3⟩ := disk_at hmm hdj
 have X0 := X
 unfold arrC at X0
 obtain ⟨k0, k1, k2, k3, k4, k5, k6, k7, k8, k9, k10, k11, k12⟩ := X0.cells13
 have zp := hp.lt
 have cp := hp.cell 0
 have zq := hq.lt
 have cq := hq.cell 0
 have hwt := memB_light (hM m _ hdj) f
 dsimp only at hwt
 have zB := X.lt
 have XH := hidden X
 have MH := hidden hmm
 have DH := hidden hdd
 have R0 := hidden p0
 have R1 := hidden p1
 have R3 := hidden p3
 have HG := hidden hgm
 have hS : w.drew.cell? ⟨p, 0, none⟩ = some (.pointer (some ⟨B, 0, none⟩)) /\ w.drew.cell? ⟨q, 0, none⟩ = some (.int .i64 (m : Int)) /\ w.drew.cell? ⟨B, 0, none⟩ = some (.int .i64 x.id) /\ w.drew.cell? ⟨B, 1, none⟩ = some (.int .i64 x.n) /\ w.drew.cell? ⟨B, 2, none⟩ = some (.int .i64 x.s) /\ w.drew.cell? ⟨B, 3, none⟩ = some (.slice (some ⟨g, 0, none⟩) ms.length cm) /\ w.drew.cell? ⟨B, 4, none⟩ = some (.int .i64 x.lost) /\ w.drew.cell? ⟨B, 5, none⟩ = some (.int .i64 x.built) /\ w.drew.cell? ⟨B, 6, none⟩ = some (.int .i64 x.seq) /\ w.drew.cell? ⟨B, 7, none⟩ = some (.int .i64 x.tail) /\ w.drew.cell? ⟨B, 8, none⟩ = some (.int .i64 x.gen) /\ w.drew.cell? ⟨B, 9, none⟩ = some (.slice bd ds.length cd) /\ w.drew.cell? ⟨B, 10, none⟩ = some (.int .i64 x.fuse) /\ w.drew.cell? ⟨B, 11, none⟩ = some (.bool x.down) /\ w.drew.cell? ⟨B, 12, none⟩ = some (.bool x.broken) /\ w.drew.cell? ⟨g, m * 4, none⟩ = some (.slice a0 ss.length c0) /\ w.drew.cell? ⟨g, m * 4 + 1, none⟩ = some (.slice a1 cs.length c1) /\ w.drew.cell? ⟨g, m * 4 + 2, none⟩ = some (.bool f) /\ w.drew.cell? ⟨g, m * 4 + 3, none⟩ = some (.slice a3 bs.length c3) := ⟨cp, cq, k0, k1, k2, k3, k4, k5, k6, k7, k8, k9, k10, k11, k12, q0, q1, q2, q3⟩
 have i1 : (0 : Int) <= (m : Int) := by omega
 have i3 : (m : Int) < (ms.length : Int) := by omega
 clear X X0 hmm hdd p0 p1 p3 hM hdj hgm hdis
 go_enter Tryz.func160, Tryz.ntmps160
 go_wp2_with fail
 refine Upto.start (S := fun w' => w'.cell? ⟨p, 0, none⟩ = some (.pointer (some ⟨B, 0, none⟩)) /\ w'.cell? ⟨q, 0, none⟩ = some (.int .i64 (m : Int)) /\ w'.cell? ⟨B, 0, none⟩ = some (.int .i64 x.id) /\ w'.cell? ⟨B, 1, none⟩ = some (.int .i64 x.n) /\ w'.cell? ⟨B, 2, none⟩ = some (.int .i64 x.s) /\ w'.cell? ⟨B, 3, none⟩ = some (.slice (some ⟨g, 0, none⟩) ms.length cm) /\ w'.cell? ⟨B, 4, none⟩ = some (.int .i64 x.lost) /\ w'.cell? ⟨B, 5, none⟩ = some (.int .i64 x.built) /\ w'.cell? ⟨B, 6, none⟩ = some (.int .i64 x.seq) /\ w'.cell? ⟨B, 7, none⟩ = some (.int .i64 x.tail) /\ w'.cell? ⟨B, 8, none⟩ = some (.int .i64 x.gen) /\ w'.cell? ⟨B, 9, none⟩ = some (.slice bd ds.length cd) /\ w'.cell? ⟨B, 10, none⟩ = some (.int .i64 x.fuse) /\ w'.cell? ⟨B, 11, none⟩ = some (.bool x.down) /\ w'.cell? ⟨B, 12, none⟩ = some (.bool x.broken) /\ w'.cell? ⟨g, m * 4, none⟩ = some (.slice a0 ss.length c0) /\ w'.cell? ⟨g, m * 4 + 1, none⟩ = some (.slice a1 cs.length c1) /\ w'.cell? ⟨g, m * 4 + 2, none⟩ = some (.bool f) /\ w'.cell? ⟨g, m * 4 + 3, none⟩ = some (.slice a3 bs.length c3)) (k := 19) (by kernel_rfl) ?_
 refine Upto.t 0 hS ?_
 refine Upto.t 1 hS ?_
 refine Upto.t 2 hS ?_
 refine Upto.t 3 hS ?_
 refine Upto.t 4 hS ?_
 refine Upto.t 5 hS ?_
 refine Upto.t 6 hS ?_
 refine Upto.t 7 hS ?_
 refine Upto.t 8 hS ?_
 refine Upto.t 9 hS ?_
 refine Upto.t 10 hS ?_
 refine Upto.t 11 hS ?_
 refine Upto.t 12 hS ?_
 refine Upto.t 13 hS ?_
 refine Upto.t 14 hS ?_
 refine Upto.t 15 hS ?_
 refine Upto.one (i := 16) (by kernel_rfl) rfl (fun K hK => ?_)
 go_simp
 refine (superFor_any _ x _ _ _ _ _ _ (m : Int)).mono ?_
 rintro e w1 ⟨rfl, b1'⟩
 have b1 : Below w.heap.size w w1 := (Below.refl w.heap.size w).drew.trans b1'
 have hS1 : w1.cell? ⟨p, 0, none⟩ = some (.pointer (some ⟨B, 0, none⟩)) /\ w1.cell? ⟨q, 0, none⟩ = some (.int .i64 (m : Int)) /\ w1.cell? ⟨B, 0, none⟩ = some (.int .i64 x.id) /\ w1.cell? ⟨B, 1, none⟩ = some (.int .i64 x.n) /\ w1.cell? ⟨B, 2, none⟩ = some (.int .i64 x.s) /\ w1.cell? ⟨B, 3, none⟩ = some (.slice (some ⟨g, 0, none⟩) ms.length cm) /\ w1.cell? ⟨B, 4, none⟩ = some (.int .i64 x.lost) /\ w1.cell? ⟨B, 5, none⟩ = some (.int .i64 x.built) /\ w1.cell? ⟨B, 6, none⟩ = some (.int .i64 x.seq) /\ w1.cell? ⟨B, 7, none⟩ = some (.int .i64 x.tail) /\ w1.cell? ⟨B, 8, none⟩ = some (.int .i64 x.gen) /\ w1.cell? ⟨B, 9, none⟩ = some (.slice bd ds.length cd) /\ w1.cell? ⟨B, 10, none⟩ = some (.int .i64 x.fuse) /\ w1.cell? ⟨B, 11, none⟩ = some (.bool x.down) /\ w1.cell? ⟨B, 12, none⟩ = some (.bool x.broken) /\ w1.cell? ⟨g, m * 4, none⟩ = some (.slice a0 ss.length c0) /\ w1.cell? ⟨g, m * 4 + 1, none⟩ = some (.slice a1 cs.length c1) /\ w1.cell? ⟨g, m * 4 + 2, none⟩ = some (.bool f) /\ w1.cell? ⟨g, m * 4 + 3, none⟩ = some (.slice a3 bs.length c3) := ⟨(b1.cell (p := ⟨p, 0, none⟩) zp).trans cp, (b1.cell (p := ⟨q, 0, none⟩) zq).trans cq, (b1.cell (p := ⟨B, 0, none⟩) zB).trans k0, (b1.cell (p := ⟨B, 1, none⟩) zB).trans k1, (b1.cell (p := ⟨B, 2, none⟩) zB).trans k2, (b1.cell (p := ⟨B, 3, none⟩) zB).trans k3, (b1.cell (p := ⟨B, 4, none⟩) zB).trans k4, (b1.cell (p := ⟨B, 5, none⟩) zB).trans k5, (b1.cell (p := ⟨B, 6, none⟩) zB).trans k6, (b1.cell (p := ⟨B, 7, none⟩) zB).trans k7, (b1.cell (p := ⟨B, 8, none⟩) zB).trans k8, (b1.cell (p := ⟨B, 9, none⟩) zB).trans k9, (b1.cell (p := ⟨B, 10, none⟩) zB).trans k10, (b1.cell (p := ⟨B, 11, none⟩) zB).trans k11, (b1.cell (p := ⟨B, 12, none⟩) zB).trans k12, (b1.cell (p := ⟨g, m * 4, none⟩) hgl).trans q0, (b1.cell (p := ⟨g, m * 4 + 1, none⟩) hgl).trans q1, (b1.cell (p := ⟨g, m * 4 + 2, none⟩) hgl).trans q2, (b1.cell (p := ⟨g, m * 4 + 3, none⟩) hgl).trans q3⟩
 have zb1 := b1.size
 have B1 := hidden b1
 clear b1 b1'
 go_wp2_with fail
 refine hK.out _ _ (fun _ => hS1) ?_
 clear hK K
 refine Upto.one (i := 17) (by kernel_rfl) rfl (fun K hK => ?_)
 go_simp
 refine (implWriteSuper_any _ 109 _ _ _ _ _ _ _ _ _ ss cs f bs (supA x m) (R0.out.below B1.out) (R1.out.below B1.out) (R3.out.below B1.out) (by omega)).mono ?_
 rintro e w2 ⟨u0, u1, u3, rfl, o2, b2'⟩
 have b2 : Below w.heap.size w w2 := Below.andThen B1.out b2'
 have o2b : (tMem 109).Own w2 w.heap.size w2.heap.size [u0, u1, .bool f, u3] _ := o2.widen zb1 (Nat.le_refl _)
 obtain ⟨d0, l0, f0, d1, l1, f1, d3, l3, f3, hv0, hv1, hv3⟩ := mem_slices o2b
 subst hv0 hv1 hv3
 obtain ⟨fpx, mx, rx⟩ := o2b.mine
 obtain ⟨cOld, fz, hgm, fm9, hA9, hMv9⟩ := arr_store (m := m) XH.out MH.out DH.out hr r1 r2 b2 (by omega) mx (fun b hb => (rx b hb).1)
 obtain ⟨o0, t0⟩ := cOld 0 (by omega)
 obtain ⟨o1, t1⟩ := cOld 1 (by omega)
 obtain ⟨o2', t2⟩ := cOld 2 (by omega)
 obtain ⟨o3, t3⟩ := cOld 3 (by omega)
 rw [Nat.add_zero] at t0
 have HA := hidden hA9
 have HMV := hidden hMv9
 have hS2 : w2.cell? ⟨p, 0, none⟩ = some (.pointer (some ⟨B, 0, none⟩)) /\ w2.cell? ⟨q, 0, none⟩ = some (.int .i64 (m : Int)) /\ w2.cell? ⟨B, 0, none⟩ = some (.int .i64 x.id) /\ w2.cell? ⟨B, 1, none⟩ = some (.int .i64 x.n) /\ w2.cell? ⟨B, 2, none⟩ = some (.int .i64 x.s) /\ w2.cell? ⟨B, 3, none⟩ = some (.slice (some ⟨g, 0, none⟩) ms.length cm) /\ w2.cell? ⟨B, 4, none⟩ = some (.int .i64 x.lost) /\ w2.cell? ⟨B, 5, none⟩ = some (.int .i64 x.built) /\ w2.cell? ⟨B, 6, none⟩ = some (.int .i64 x.seq) /\ w2.cell? ⟨B, 7, none⟩ = some (.int .i64 x.tail) /\ w2.cell? ⟨B, 8, none⟩ = some (.int .i64 x.gen) /\ w2.cell? ⟨B, 9, none⟩ = some (.slice bd ds.length cd) /\ w2.cell? ⟨B, 10, none⟩ = some (.int .i64 x.fuse) /\ w2.cell? ⟨B, 11, none⟩ = some (.bool x.down) /\ w2.cell? ⟨B, 12, none⟩ = some (.bool x.broken) /\ w2.cell? ⟨g, m * 4, none⟩ = some (.slice a0 ss.length c0) /\ w2.cell? ⟨g, m * 4 + 1, none⟩ = some (.slice a1 cs.length c1) /\ w2.cell? ⟨g, m * 4 + 2, none⟩ = some (.bool f) /\ w2.cell? ⟨g, m * 4 + 3, none⟩ = some (.slice a3 bs.length c3) := ⟨(b2.cell (p := ⟨p, 0, none⟩) zp).trans cp, (b2.cell (p := ⟨q, 0, none⟩) zq).trans cq, (b2.cell (p := ⟨B, 0, none⟩) zB).trans k0, (b2.cell (p := ⟨B, 1, none⟩) zB).trans k1, (b2.cell (p := ⟨B, 2, none⟩) zB).trans k2, (b2.cell (p := ⟨B, 3, none⟩) zB).trans k3, (b2.cell (p := ⟨B, 4, none⟩) zB).trans k4, (b2.cell (p := ⟨B, 5, none⟩) zB).trans k5, (b2.cell (p := ⟨B, 6, none⟩) zB).trans k6, (b2.cell (p := ⟨B, 7, none⟩) zB).trans k7, (b2.cell (p := ⟨B, 8, none⟩) zB).trans k8, (b2.cell (p := ⟨B, 9, none⟩) zB).trans k9, (b2.cell (p := ⟨B, 10, none⟩) zB).trans k10, (b2.cell (p := ⟨B, 11, none⟩) zB).trans k11, (b2.cell (p := ⟨B, 12, none⟩) zB).trans k12, (b2.cell (p := ⟨g, m * 4, none⟩) hgl).trans q0, (b2.cell (p := ⟨g, m * 4 + 1, none⟩) hgl).trans q1, (b2.cell (p := ⟨g, m * 4 + 2, none⟩) hgl).trans q2, (b2.cell (p := ⟨g, m * 4 + 3, none⟩) hgl).trans q3⟩
 have gB : ¬ g = B := fun e => r1 (e ▸ hgm)
 unfold put4 at HA HMV
 clear cp cq k0 k1 k2 k3 k4 k5 k6 k7 k8 k9 k10 k11 k12 q0 q1 q2 q3 o2 o2b b2 b2' mx rx cOld hA9 hMv9 XH MH DH R0 R1 R3 hwt hS1 B1
 go_wp2_with fail
 refine hK.out _ _ (fun _ => hS2) ?_
 clear hK K
 refine Upto.t 18 hS2 ?_
 refine Upto.one (i := 19) (by kernel_rfl) rfl (fun K hK => ?_)
 go_simp
 refine hK.out _ _ (fun h => absurd rfl h) ?_
 clear hK K
 refine Upto.done (by kernel_rfl) ?_ _
 clear hS hS2 t0 t1 t2 t3 fz
 go_wp2
 refine bodyPost_end (v := .tuple #[]) (results_none rfl _ _ _) rfl ?_
 refine ⟨rfl, fm9, ?_, HMV.out⟩
 show ArrAt _ B x (ms.set m (opF (supK m) x (ms.getD m memZ))) ds fm9 fd
 rw [HG.out]
 exact HA.out

theorem superOp_any (w : World) (B m : Nat) : Calls Tryz.prog 149 #[.pointer (some ⟨B, 0, none⟩), .int .i64 (m : Int)] w fun e w' => ∃ v, e = .returned v /\ (opTy B).Own w' w.heap.size w'.heap.size [v] (supK m) /\ Below w.heap.size w w' := by
 have hmf : ∀ (fn : Fn) (first cap : Array Value) (w : World), (Instr.makeFunc fn first cap).run Tryz.prog w = .ok (.func fn first cap) w := fun _ _ _ _ => rfl
 have hb : Below w.heap.size w ((w.alloc (.cells #[.pointer (some ⟨B, 0, none⟩)] 53)).alloc (.cells #[.int .i64 (m : Int)] 3)) := ((Below.refl _ _).alloc (Nat.le_refl _) _).alloc (by simp) _
 have b0 : Box ((w.alloc (.cells #[.pointer (some ⟨B, 0, none⟩)] 53)).alloc (.cells #[.int .i64 (m : Int)] 3)) w.heap.size 53 #[.pointer (some ⟨B, 0, none⟩)] := (Box.new w _ _).alloc _
 have b1 := Box.new (w.alloc (.cells #[.pointer (some ⟨B, 0, none⟩)] 53)) 3 #[.int .i64 (m : Int)]
 rw [World.size_alloc] at b1
 have hsz : ((w.alloc (.cells #[.pointer (some ⟨B, 0, none⟩)] 53)).alloc (.cells #[.int .i64 (m : Int)] 3)).heap.size = w.heap.size + 1 + 1 := by simp
 have HO : Hid ((opTy B).Own ((w.alloc (.cells #[.pointer (some ⟨B, 0, none⟩)] 53)).alloc (.cells #[.int .i64 (m : Int)] 3)) w.heap.size ((w.alloc (.cells #[.pointer (some ⟨B, 0, none⟩)] 53)).alloc (.cells #[.int .i64 (m : Int)] 3)).heap.size [.func (Fn.func 160) #[] #[.pointer (some ⟨w.heap.size, 0, none⟩), .pointer (some ⟨w.heap.size + 1, 0, none⟩)]] (supK m)) := by
  refine ⟨[w.heap.size, w.heap.size + 1], ⟨160, _, rfl, ?_, ?_, fun w' hk hs => ?_⟩, ?_, ?_⟩
  . exact enters_of Tryz.func160 (by kernel_rfl) (by kernel_rfl) _
  . intro b hb'; simp at hb'; omega
  . exact superOp1_runs w' B _ _ m (b0.kept (hk _ (by simp))) (b1.kept (hk _ (by simp)))
  . simp
  intro b hb'; simp at hb'; omega
 have HB := hidden hb
 clear hb b0 b1 hsz
 go_enter Tryz.func149, Tryz.ntmps149
 go_wp2
 go_ret
 exact ⟨_, rfl, HO.out, HB.out⟩

theorem superWrites1_any (w : World) (B p m : Nat) (hp : Box w p 53 #[.pointer (some ⟨B, 0, none⟩)]) : Calls Tryz.prog 148 #[.int .i64 (m : Int), .pointer (some ⟨p, 0, none⟩)] w fun e w' => ∃ v, e = .returned v /\ (opTy B).Own w' w.heap.size w'.heap.size [v] (supK m) /\ Below w.heap.size w w' := by
 have c0 : w.cell? ⟨p, 0, none⟩ = some (.pointer (some ⟨B, 0, none⟩)) := hp.cell 0
 go_enter Tryz.func148, Tryz.ntmps148
 go_wp2_with fail
 refine (superOp_any _ B m).mono ?_
 rintro e w1 ⟨v, rfl, ov, b1⟩
 have OV := hidden ov
 have B1 := hidden b1
 clear ov b1
 go_wp2
 go_ret
 exact ⟨_, rfl, OV.out, B1.out⟩

theorem superWrites_any (w : World) (B : Nat) (x : ArrN) (ms : List MemD) (ds : List (Int × List Int)) (fm fd : List Nat) (h : ArrAt w B x ms ds fm fd) (hl : ms.length <= 2097152) : Calls Tryz.prog 117 #[.pointer (some ⟨B, 0, none⟩)] w fun e w' => ∃ bo co, e = .returned (.slice bo (opsL supK ms ms.length).length co) /\ (tOps B).Own w' w.heap.size w'.heap.size [.slice bo (opsL supK ms ms.length).length co] (opsL supK ms ms.length) /\ Below w.heap.size w w' := by
 have hmf : ∀ (fn : Fn) (first cap : Array Value) (w : World), (Instr.makeFunc fn first cap).run Tryz.prog w = .ok (.func fn first cap) w := fun _ _ _ _ => rfl
 have bA := new_below w (.cells #[.pointer (some ⟨B, 0, none⟩)] 53)
 have bx := Box.new w 53 #[.pointer (some ⟨B, 0, none⟩)]
 have HA := hidden (h.alloc (.cells #[.pointer (some ⟨B, 0, none⟩)] 53))
 have hlt := bx.lt
 clear h
 go_enter Tryz.func117, Tryz.ntmps117
 go_wp2_with fail
 refine (opsOf_any _ B x ms ds fm fd HA.out hl supK 148 #[.pointer (some ⟨w.heap.size, 0, none⟩)] (fun m => enters_of Tryz.func148 (by kernel_rfl) (by kernel_rfl) _) (fun m w' hm hb => ?_)).mono ?_
 . exact superWrites1_any w' B _ m (bx.below hb hlt)
 rintro e w1 ⟨bo, co, rfl, oo, b1⟩
 have OO := hidden (oo.widen (lo' := w.heap.size) (hi' := w1.heap.size) (by simp) (Nat.le_refl _))
 have B1 := hidden (Below.andThen bA b1)
 clear oo b1 bA bx
 go_wp2
 go_ret
 exact ⟨_, _, rfl, OO.out, B1.out⟩

theorem arr_marked {w : World} {B : Nat} {x : ArrN} {ms : List MemD} {ds : List (Int × List Int)} {fm fd : List Nat} (h : ArrAt w B x ms ds fm fd) : ArrAt (w.setCell ⟨B, 8, none⟩ (.int .i64 (x.gen + 1))) B {x with gen := x.gen + 1} ms ds fm fd := by
 obtain ⟨bm, bd, cm, cd, X, hm, hd, hr, r1, r2⟩ := h
 exact ⟨bm, bd, cm, cd, X.set 8 _, hm.setCell r1 _, hd.setCell r2 _, hr, r1, r2⟩
def SupFit (x : ArrN) (n : Nat) : Prop := ∀ i : Nat, i < n -> supB (supA x i) = true
theorem sup_fit {x : ArrN} {ms : List MemD} {ds : List (Int × List Int)} (h : arrB x ms ds = true) (hg : x.gen < 60000) (t : Int) (ht : t = x.tail ∨ t = x.seq) : SupFit {x with gen := x.gen + 1, tail := t} ms.length := by
 intro i hi
 have hl := arr_len h
 unfold arrB lostB6 seqB6 at h
 simp only [Bool.and_eq_true, geoB_iff, inB_iff, decide_eq_true_eq, Bool.or_eq_true, Bool.not_eq_true', decide_eq_false_iff_not] at h
 obtain ⟨hgeo, hid, _, _, ⟨hlo, hbu, hlb⟩, htl, hsq, _, hgen, _⟩ := h
 rw [supB_iff]
 unfold supA
 dsimp only
 refine ⟨hgeo, ?_, ⟨by omega, by omega⟩, hid, ⟨by omega, by omega⟩, ⟨by rcases ht with rfl | rfl <;> omega, by rcases ht with rfl | rfl <;> omega⟩⟩
 by_cases e : x.lost = -1
 . exact .inl ⟨e, hlb.resolve_left (fun h => h e)⟩
 exact .inr ⟨e, by omega, hlo.2, hbu.1, hbu.2⟩
theorem run_mark {x : ArrN} {ms : List MemD} (hM : MsOk ms) (hf : x.fuse <= 1000) (hu : SupFit {x with gen := x.gen + 1} ms.length) : runS ({x with gen := x.gen + 1}, ms) (opsL supK ms ms.length) = supsS ({x with gen := x.gen + 1}, ms) ms.length :=
 run_sups (q := ({x with gen := x.gen + 1}, ms)) hM hf hu ms.length (Nat.le_refl _)
theorem syncS_down {q : ArrN × List MemD} (h : q.1.down = true) : ∀ j, syncS q j = q
 | 0 => rfl
 | j + 1 => by rw [syncS_succ, syncS_down h j, doS_down _ _ h]

theorem markI_any (w : World) (B : Nat) (x : ArrN) (ms : List MemD) (ds : List (Int × List Int)) (fm fd : List Nat) (h : ArrAt w B x ms ds fm fd) (hf : x.fuse <= 1000) (hdn : x.down = false) (hM : MsOk ms) (hl : ms.length <= 2097152) (hg0 : 0 <= x.gen) (hg : x.gen < 60000) (hu : SupFit {x with gen := x.gen + 1} ms.length) : Calls Tryz.prog 76 #[.pointer (some ⟨B, 0, none⟩)] w (Did w B fm ds fd (markS (x, ms))) := by
 have k8 : w.cell? ⟨B, 8, none⟩ = some (.int .i64 x.gen) := by
  obtain ⟨bm, bd, cm, cd, X, _⟩ := h
  unfold arrC at X
  exact X.cells13.2.2.2.2.2.2.2.2.1
 have fz : ∀ j, w.frozen? ⟨B, j, none⟩ = false := by
  obtain ⟨bm, bd, cm, cd, X, _⟩ := h
  exact X.frozen
 have hw1 : IntKind.i64.wrap (x.gen + 1) = x.gen + 1 := IntWalk.i64_in _ (by omega)
 have HA := hidden (arr_marked h)
 have MS := hidden (Moved.set (B := B) (j := 8) (fm := fm) (w := w) (.int .i64 (x.gen + 1)))
 have HR := hidden (run_mark hM hf hu)
 have HF : Hid (x.fuse <= 1000 /\ x.down = false) := ⟨hf, hdn⟩
 have HMK : Hid (markS (x, ms) = syncS (supsS ({x with gen := x.gen + 1}, ms) ms.length) ms.length) := rfl
 have HK := hidden (supsS_keeps (q := ({x with gen := x.gen + 1}, ms)) hM hf ms.length)
 have hlB := HA.out.lt
 have hlm := HA.out.ltm.1
 clear h hf hdn hg0 hg hu
 go_enter Tryz.func76, Tryz.ntmps76
 go_wp2_with fail
 clear k8 fz
 generalize w.setCell ⟨B, 8, none⟩ (.int .i64 (x.gen + 1)) = w0 at HA MS hlB hlm ⊢
 refine (superWrites_any _ B {x with gen := x.gen + 1} ms ds fm fd HA.out hl).mono ?_
 rintro e w1 ⟨bo, co, rfl, oo, b1⟩
 obtain ⟨fo, mo, ro⟩ := oo.mine
 have HP := hidden (perform_any w1 B {x with gen := x.gen + 1} ms ds fm fd (HA.out.below b1) HF.out.1 HF.out.2 hM bo co (opsL supK ms ms.length) fo mo (fun b hb => ⟨fun e => by have := (ro b hb).1; omega, fun hm => by have h1 := (ro b hb).1; have h2 := hlm b hm; omega⟩) (fun o ho => by
  obtain ⟨i, hi, hfl, rfl⟩ := opsL_mem ho
  exact ⟨hi, hfl⟩))
 have MB := hidden (MS.out.below b1)
 clear oo mo ro b1 hlm HA MS
 go_wp2_with fail
 refine HP.out.mono ?_
 rintro e w2 hd
 rw [HR.out] at hd
 obtain ⟨he, fm2, hA2, hMv2⟩ := hd
 have MV2 := hidden (MB.out.trans hMv2)
 obtain ⟨kM, kS, kL⟩ := HK.out
 clear hMv2 HR HP HK MB
 generalize supsS ({x with gen := x.gen + 1}, ms) ms.length = st at he hA2 HMK kM kS kL
 obtain ⟨y, ns⟩ := st
 dsimp only at he hA2 kM kS kL
 have hfy := kS.2.2.2.2.2.2.2.2.2.1
 unfold EndOf at he
 cases hst : y.down
 . rw [if_neg (by simp [hst])] at he
   subst he
   have HS := hidden (syncDisks_any w2 B y ns ds fm2 fd hA2 hfy hst kM (by omega))
   rw [kL] at HS
   clear hst hA2
   go_wp2_with fail
   refine HS.out.mono ?_
   rintro e w3 ⟨he, fm3, hA3, hMv3⟩
   have HD : Hid (Did w B fm ds fd (markS (x, ms)) e w3) := by
    unfold Hid
    rw [HMK.out]
    exact ⟨he, fm3, hA3, MV2.out.trans hMv3⟩
   unfold EndOf at he
   clear hA3 hMv3
   cases hst : (syncS (y, ns) ms.length).1.down
   . rw [if_neg (by simp [hst])] at he
     subst he
     clear hst
     go_wp2
     refine bodyPost_end (v := .tuple #[]) (results_none rfl _ _ _) rfl ?_
     exact HD.out
   rw [if_pos hst] at he
   subst he
   clear hst
   go_wp2
   exact ⟨rfl, HD.out⟩
 rw [if_pos hst] at he
 subst he
 have HD : Hid (Did w B fm ds fd (markS (x, ms)) (.panicked goneC) w2) := by
  unfold Hid
  rw [HMK.out, syncS_down hst]
  exact ⟨EndOf.gone hst, fm2, hA2, MV2.out⟩
 clear hst hA2
 go_wp2
 exact ⟨rfl, HD.out⟩

theorem markDisks_any (w : World) (B : Nat) (x : ArrN) (ms : List MemD) (ds : List (Int × List Int)) (fm fd : List Nat) (h : ArrAt w B x ms ds fm fd) (ha : arrB x ms ds = true) (hdn : x.down = false) (hg : x.gen < 60000) : Calls Tryz.prog 76 #[.pointer (some ⟨B, 0, none⟩)] w (Did w B fm ds fd (markS (x, ms))) := by
 obtain ⟨fc, mk, gc0, gc1⟩ := arr_facts ha
 have hl := arr_len ha
 exact markI_any w B x ms ds fm fd h fc hdn mk (by omega) gc0 hg (sup_fit ha hg x.tail (.inl rfl))

theorem implMark_any (w : World) (E F G : TypeId) (x : ArrN) (am ad : Option Addr) (nm cm nd cd : Nat) (ms : List MemD) (ds : List (Int × List Int)) (h0 : (tMemS E F).Rd w [.slice am nm cm] ms) (h1 : (tWrS G).Rd w [.slice ad nd cd] ds) (hw : wtArr ms ds <= 2097152) :
 Calls Tryz.prog 37 #[.agg #[.int .i64 x.id, .int .i64 x.n, .int .i64 x.s, .slice am nm cm, .int .i64 x.lost, .int .i64 x.built, .int .i64 x.seq, .int .i64 x.tail, .int .i64 x.gen, .slice ad nd cd, .int .i64 x.fuse, .bool x.down, .bool x.broken]] w fun e w' => ArrOut w w' e (markO x ms ds) ds := by
 obtain ⟨rfl, _⟩ := row_length h0
 obtain ⟨rfl, _⟩ := row_length h1
 have hA := (new_below w (.cells #[.int .i64 x.id, .int .i64 x.n, .int .i64 x.s, .slice am ms.length cm, .int .i64 x.lost, .int .i64 x.built, .int .i64 x.seq, .int .i64 x.tail, .int .i64 x.gen, .slice ad ds.length cd, .int .i64 x.fuse, .bool x.down, .bool x.broken] 33)).alloc (by simp) (.cells #[.int .i64 0, .int .i64 0, .int .i64 0, .slice none 0 0, .int .i64 0, .int .i64 0, .int .i64 0, .int .i64 0, .int .i64 0, .slice none 0 0, .int .i64 0, .bool false, .bool false] 33)
 have X0 : Box ((w.alloc (.cells #[.int .i64 x.id, .int .i64 x.n, .int .i64 x.s, .slice am ms.length cm, .int .i64 x.lost, .int .i64 x.built, .int .i64 x.seq, .int .i64 x.tail, .int .i64 x.gen, .slice ad ds.length cd, .int .i64 x.fuse, .bool x.down, .bool x.broken] 33)).alloc (.cells #[.int .i64 0, .int .i64 0, .int .i64 0, .slice none 0 0, .int .i64 0, .int .i64 0, .int .i64 0, .int .i64 0, .int .i64 0, .slice none 0 0, .int .i64 0, .bool false, .bool false] 33)) w.heap.size 33 #[.int .i64 x.id, .int .i64 x.n, .int .i64 x.s, .slice am ms.length cm, .int .i64 x.lost, .int .i64 x.built, .int .i64 x.seq, .int .i64 x.tail, .int .i64 x.gen, .slice ad ds.length cd, .int .i64 x.fuse, .bool x.down, .bool x.broken] := (Box.new w _ _).alloc _
 have R0 := Box.new (w.alloc (.cells #[.int .i64 x.id, .int .i64 x.n, .int .i64 x.s, .slice am ms.length cm, .int .i64 x.lost, .int .i64 x.built, .int .i64 x.seq, .int .i64 x.tail, .int .i64 x.gen, .slice ad ds.length cd, .int .i64 x.fuse, .bool x.down, .bool x.broken] 33)) 33 #[.int .i64 0, .int .i64 0, .int .i64 0, .slice none 0 0, .int .i64 0, .int .i64 0, .int .i64 0, .int .i64 0, .int .i64 0, .slice none 0 0, .int .i64 0, .bool false, .bool false]
 rw [World.size_alloc] at R0
 have zX := X0.lt
 have zR := R0.lt
 have r0 := h0.below hA
 have r1 := h1.below hA
 have hzW : ((w.alloc (.cells #[.int .i64 x.id, .int .i64 x.n, .int .i64 x.s, .slice am ms.length cm, .int .i64 x.lost, .int .i64 x.built, .int .i64 x.seq, .int .i64 x.tail, .int .i64 x.gen, .slice ad ds.length cd, .int .i64 x.fuse, .bool x.down, .bool x.broken] 33)).alloc (.cells #[.int .i64 0, .int .i64 0, .int .i64 0, .slice none 0 0, .int .i64 0, .int .i64 0, .int .i64 0, .int .i64 0, .int .i64 0, .slice none 0 0, .int .i64 0, .bool false, .bool false] 33)).heap.size = w.heap.size + 1 + 1 := by simp
 obtain ⟨k0, k1, k2, k3, k4, k5, k6, k7, k8, k9, k10, k11, k12⟩ := X0.cells13
 go_enter Tryz.func37, Tryz.ntmps37
 go_wp2_with fail
 generalize (w.alloc (.cells #[.int .i64 x.id, .int .i64 x.n, .int .i64 x.s, .slice am ms.length cm, .int .i64 x.lost, .int .i64 x.built, .int .i64 x.seq, .int .i64 x.tail, .int .i64 x.gen, .slice ad ds.length cd, .int .i64 x.fuse, .bool x.down, .bool x.broken] 33)).alloc (.cells #[.int .i64 0, .int .i64 0, .int .i64 0, .slice none 0 0, .int .i64 0, .int .i64 0, .int .i64 0, .int .i64 0, .int .i64 0, .slice none 0 0, .int .i64 0, .bool false, .bool false] 33) = W at hA X0 R0 zX zR r0 r1 hzW k0 k1 k2 k3 k4 k5 k6 k7 k8 k9 k10 k11 k12 ⊢
 obtain ⟨BR, hBR⟩ : ∃ BR, w.heap.size + 1 = BR := ⟨_, rfl⟩
 rw [hBR] at R0 zR hzW ⊢
 have q1 : w.heap.size + 1 <= BR /\ BR <= w.heap.size + 1 := by omega
 clear hBR
 refine (implArrOk_any _ E F G x _ _ _ _ _ _ ms ds r0 r1 hw).mono ?_
 rintro e w1 ⟨rfl, b1⟩
 have X1 := X0.below b1 zX
 have R1 := R0.below b1 zR
 have p0 := r0.below b1
 have p1 := r1.below b1
 have B1 := Below.andThen hA b1
 have z1 := b1.size
 clear k0 k1 k2 k3 k4 k5 k6 k7 k8 k9 k10 k11 k12 X0 R0 r0 r1 b1 hA
 obtain ⟨k0, k1, k2, k3, k4, k5, k6, k7, k8, k9, k10, k11, k12⟩ := X1.cells13
 have HD : Hid (markO x ms ds = if (arrB x ms ds && !x.down && decide (x.gen < 60000)) = true then markS (x, ms) else (x, ms)) := rfl
 cases ha : arrB x ms ds
 . have HV : Hid (markO x ms ds = (x, ms)) := by unfold Hid; rw [HD.out, if_neg (by simp [ha])]
   go_wp2_with fail
   refine (copyArr_any _ E F G x _ _ _ _ _ _ ms ds p0 p1 hw).mono ?_
   rintro e w2 ⟨vm, cvm, vd, cvd, m, rfl, om, od, zm, zm2, b2⟩
   have R2 := R1.below b2 (by omega)
   have B2 := Below.andThen B1 b2
   obtain ⟨fm, mm, rm⟩ := om.mine
   obtain ⟨fd, md, rd⟩ := od.mine
   have hr2 : ∀ b ∈ fm, b ∉ fd := fun b hb hb' => by have h1 := rm b hb; have h2 := rd b hb'; omega
   clear X1 R1 B1 p0 p1 b2 om od k0 k1 k2 k3 k4 k5 k6 k7 k8 k9 k10 k11 k12
   obtain ⟨s0, s1, s2, s3, s4, s5, s6, s7, s8, s9, s10, s11, s12⟩ := R2.cells13
   have fz := R2.frozen
   have HO := hidden (arr_out (y := x) (ns := ms) (e := .returned (.agg (arrC x _ _))) (lo := BR + 1) B2 R2 rfl mm md hr2 (fun b hb => by have := rm b hb; omega) (fun b hb => by have := rd b hb; omega) (by omega) (by omega))
   unfold arrC at HO
   simp only [puts] at HO
   clear B2 R2 mm md
   go_wp2
   refine bodyPost_ret (v := .agg #[.int .i64 x.id, .int .i64 x.n, .int .i64 x.s, .slice vm ms.length cvm, .int .i64 x.lost, .int .i64 x.built, .int .i64 x.seq, .int .i64 x.tail, .int .i64 x.gen, .slice vd ds.length cvd, .int .i64 x.fuse, .bool x.down, .bool x.broken]) (by simp [results, Tryz.results37, go_sem, s0, s1, s2, s3, s4, s5, s6, s7, s8, s9, s10, s11, s12]) rfl ?_
   rw [HV.out]; exact HO.out
 obtain ⟨fc, mk, gc0, gc1⟩ := arr_facts ha
 cases hdn : x.down
 . have HX : Hid (x = {x with down := false}) := by unfold Hid; rw [← hdn]
   rw [hdn] at k11
   by_cases hgg : x.gen < 60000
   . have hg6 : (x.gen == 60000) = false := by simp; omega
     have HV : Hid (markO x ms ds = markS ({x with down := false}, ms)) := by unfold Hid; rw [← HX.out, HD.out, if_pos (by simp [ha, hdn, hgg])]
     have hlen := arr_len ha
     clear hdn
     have WK : Hid (∀ (w' : World) (B : Nat) (fm fd : List Nat), Below w1.heap.size w1 w' -> w1.heap.size <= B -> ArrAt w' B {x with down := false} ms ds fm fd -> (∀ b ∈ fm, w1.heap.size <= b) -> (∀ b ∈ fd, w1.heap.size <= b) -> Calls Tryz.prog 76 (#[.pointer (some ⟨B, 0, none⟩)] ++ #[]) w' (Did w' B fm ds fd (markS ({x with down := false}, ms)))) := fun w' B fm fd _ _ hA _ _ => markDisks_any w' B _ ms ds fm fd hA ha rfl hgg
     go_wp2_with fail
     refine (worked_any _ E F G {x with down := false} _ _ _ _ _ _ ms ds p0 p1 hw 76 #[] (markS ({x with down := false}, ms)) (fun B => enters_of Tryz.func76 (by kernel_rfl) (by kernel_rfl) _) WK.out).mono ?_
     rintro e w2 hq
     generalize markS ({x with down := false}, ms) = st at hq HV
     obtain ⟨y, ns⟩ := st
     obtain ⟨vm, vd, cvm, cvd, rfl, hin, b2⟩ := hq
     dsimp only at hin ⊢
     obtain ⟨fm, fd, mm, md, hr2, rm, rd⟩ := hin
     have R2 := R1.below b2 (by omega)
     have B2 := Below.andThen B1 b2
     unfold arrC
     clear X1 R1 B1 p0 p1 b2 WK k0 k1 k2 k3 k4 k5 k6 k7 k8 k9 k10 k11 k12
     obtain ⟨s0, s1, s2, s3, s4, s5, s6, s7, s8, s9, s10, s11, s12⟩ := R2.cells13
     have fz := R2.frozen
     have HO := hidden (arr_out (y := y) (ns := ns) (e := .returned (.agg (arrC y _ _))) (lo := BR + 1) B2 R2 rfl mm md hr2 (fun b hb => by have := rm b hb; omega) (fun b hb => by have := rd b hb; omega) (by omega) (by omega))
     unfold arrC at HO
     simp only [puts] at HO
     clear B2 R2 mm md
     go_wp2
     refine bodyPost_ret (v := .agg #[.int .i64 y.id, .int .i64 y.n, .int .i64 y.s, .slice vm ns.length cvm, .int .i64 y.lost, .int .i64 y.built, .int .i64 y.seq, .int .i64 y.tail, .int .i64 y.gen, .slice vd ds.length cvd, .int .i64 y.fuse, .bool y.down, .bool y.broken]) (by simp [results, Tryz.results37, go_sem, s0, s1, s2, s3, s4, s5, s6, s7, s8, s9, s10, s11, s12]) rfl ?_
     rw [HV.out]; exact HO.out
   have HV : Hid (markO x ms ds = ({x with down := false}, ms)) := by unfold Hid; rw [← HX.out, HD.out, if_neg (by simp; omega)]
   have hg6 : x.gen = 60000 := by omega
   have k8g := k8
   have hg7 : (x.gen == 60000) = true := by simpa using hg6
   clear hg6 k8g hdn
   go_wp2_with fail
   refine (copyArr_any _ E F G {x with down := false} _ _ _ _ _ _ ms ds p0 p1 hw).mono ?_
   rintro e w2 ⟨vm, cvm, vd, cvd, m, rfl, om, od, zm, zm2, b2⟩
   have R2 := R1.below b2 (by omega)
   have B2 := Below.andThen B1 b2
   obtain ⟨fm, mm, rm⟩ := om.mine
   obtain ⟨fd, md, rd⟩ := od.mine
   have hr2 : ∀ b ∈ fm, b ∉ fd := fun b hb hb' => by have h1 := rm b hb; have h2 := rd b hb'; omega
   clear X1 R1 B1 p0 p1 b2 om od k0 k1 k2 k3 k4 k5 k6 k7 k8 k9 k10 k11 k12
   obtain ⟨s0, s1, s2, s3, s4, s5, s6, s7, s8, s9, s10, s11, s12⟩ := R2.cells13
   have fz := R2.frozen
   have HO := hidden (arr_out (y := {x with down := false}) (ns := ms) (e := .returned (.agg (arrC {x with down := false} _ _))) (lo := BR + 1) B2 R2 rfl mm md hr2 (fun b hb => by have := rm b hb; omega) (fun b hb => by have := rd b hb; omega) (by omega) (by omega))
   unfold arrC at HO
   simp only [puts] at HO
   clear B2 R2 mm md
   go_wp2
   refine bodyPost_ret (v := .agg #[.int .i64 x.id, .int .i64 x.n, .int .i64 x.s, .slice vm ms.length cvm, .int .i64 x.lost, .int .i64 x.built, .int .i64 x.seq, .int .i64 x.tail, .int .i64 x.gen, .slice vd ds.length cvd, .int .i64 x.fuse, .bool false, .bool x.broken]) (by simp [results, Tryz.results37, go_sem, s0, s1, s2, s3, s4, s5, s6, s7, s8, s9, s10, s11, s12]) rfl ?_
   rw [HV.out]; exact HO.out
 have HX : Hid (x = {x with down := true}) := by unfold Hid; rw [← hdn]
 have HV : Hid (markO x ms ds = ({x with down := true}, ms)) := by unfold Hid; rw [← HX.out, HD.out, if_neg (by simp [hdn])]
 rw [hdn] at k11
 clear hdn
 go_wp2_with fail
 refine (copyArr_any _ E F G {x with down := true} _ _ _ _ _ _ ms ds p0 p1 hw).mono ?_
 rintro e w2 ⟨vm, cvm, vd, cvd, m, rfl, om, od, zm, zm2, b2⟩
 have R2 := R1.below b2 (by omega)
 have B2 := Below.andThen B1 b2
 obtain ⟨fm, mm, rm⟩ := om.mine
 obtain ⟨fd, md, rd⟩ := od.mine
 have hr2 : ∀ b ∈ fm, b ∉ fd := fun b hb hb' => by have h1 := rm b hb; have h2 := rd b hb'; omega
 clear X1 R1 B1 p0 p1 b2 om od k0 k1 k2 k3 k4 k5 k6 k7 k8 k9 k10 k11 k12
 obtain ⟨s0, s1, s2, s3, s4, s5, s6, s7, s8, s9, s10, s11, s12⟩ := R2.cells13
 have fz := R2.frozen
 have HO := hidden (arr_out (y := {x with down := true}) (ns := ms) (e := .returned (.agg (arrC {x with down := true} _ _))) (lo := BR + 1) B2 R2 rfl mm md hr2 (fun b hb => by have := rm b hb; omega) (fun b hb => by have := rd b hb; omega) (by omega) (by omega))
 unfold arrC at HO
 simp only [puts] at HO
 clear B2 R2 mm md
 go_wp2
 refine bodyPost_ret (v := .agg #[.int .i64 x.id, .int .i64 x.n, .int .i64 x.s, .slice vm ms.length cvm, .int .i64 x.lost, .int .i64 x.built, .int .i64 x.seq, .int .i64 x.tail, .int .i64 x.gen, .slice vd ds.length cvd, .int .i64 x.fuse, .bool true, .bool x.broken]) (by simp [results, Tryz.results37, go_sem, s0, s1, s2, s3, s4, s5, s6, s7, s8, s9, s10, s11, s12]) rfl ?_
 rw [HV.out]; exact HO.out

theorem implFailDisk_any (w : World) (E F G : TypeId) (x : ArrN) (am ad : Option Addr) (nm cm nd cd : Nat) (ms : List MemD) (ds : List (Int × List Int)) (m : Int) (h0 : (tMemS E F).Rd w [.slice am nm cm] ms) (h1 : (tWrS G).Rd w [.slice ad nd cd] ds) (hw : wtArr ms ds <= 2097152) :
 Calls Tryz.prog 11 #[.agg #[.int .i64 x.id, .int .i64 x.n, .int .i64 x.s, .slice am nm cm, .int .i64 x.lost, .int .i64 x.built, .int .i64 x.seq, .int .i64 x.tail, .int .i64 x.gen, .slice ad nd cd, .int .i64 x.fuse, .bool x.down, .bool x.broken], .int .i64 m] w fun e w' => ArrOut w w' e (failO x ms ds m) ds := by
 obtain ⟨rfl, _⟩ := row_length h0
 obtain ⟨rfl, _⟩ := row_length h1
 have hwm : wtMemS ms <= 2097152 := by unfold wtArr at hw; omega
 have hnm : ms.length <= 2097152 := by unfold wtMemS at hwm; omega
 have hA := (new_below w (.cells #[.int .i64 x.id, .int .i64 x.n, .int .i64 x.s, .slice am ms.length cm, .int .i64 x.lost, .int .i64 x.built, .int .i64 x.seq, .int .i64 x.tail, .int .i64 x.gen, .slice ad ds.length cd, .int .i64 x.fuse, .bool x.down, .bool x.broken] 33)).alloc (by simp) (.cells #[.int .i64 0, .int .i64 0, .int .i64 0, .slice none 0 0, .int .i64 0, .int .i64 0, .int .i64 0, .int .i64 0, .int .i64 0, .slice none 0 0, .int .i64 0, .bool false, .bool false] 33)
 have X0 : Box ((w.alloc (.cells #[.int .i64 x.id, .int .i64 x.n, .int .i64 x.s, .slice am ms.length cm, .int .i64 x.lost, .int .i64 x.built, .int .i64 x.seq, .int .i64 x.tail, .int .i64 x.gen, .slice ad ds.length cd, .int .i64 x.fuse, .bool x.down, .bool x.broken] 33)).alloc (.cells #[.int .i64 0, .int .i64 0, .int .i64 0, .slice none 0 0, .int .i64 0, .int .i64 0, .int .i64 0, .int .i64 0, .int .i64 0, .slice none 0 0, .int .i64 0, .bool false, .bool false] 33)) w.heap.size 33 #[.int .i64 x.id, .int .i64 x.n, .int .i64 x.s, .slice am ms.length cm, .int .i64 x.lost, .int .i64 x.built, .int .i64 x.seq, .int .i64 x.tail, .int .i64 x.gen, .slice ad ds.length cd, .int .i64 x.fuse, .bool x.down, .bool x.broken] := (Box.new w _ _).alloc _
 have R0 := Box.new (w.alloc (.cells #[.int .i64 x.id, .int .i64 x.n, .int .i64 x.s, .slice am ms.length cm, .int .i64 x.lost, .int .i64 x.built, .int .i64 x.seq, .int .i64 x.tail, .int .i64 x.gen, .slice ad ds.length cd, .int .i64 x.fuse, .bool x.down, .bool x.broken] 33)) 33 #[.int .i64 0, .int .i64 0, .int .i64 0, .slice none 0 0, .int .i64 0, .int .i64 0, .int .i64 0, .int .i64 0, .int .i64 0, .slice none 0 0, .int .i64 0, .bool false, .bool false]
 rw [World.size_alloc] at R0
 have zX := X0.lt
 have zR := R0.lt
 have r0 := h0.below hA
 have r1 := h1.below hA
 obtain ⟨k0, k1, k2, k3, k4, k5, k6, k7, k8, k9, k10, k11, k12⟩ := X0.cells13
 go_enter Tryz.func11, Tryz.ntmps11
 go_wp2_with fail
 generalize (w.alloc (.cells #[.int .i64 x.id, .int .i64 x.n, .int .i64 x.s, .slice am ms.length cm, .int .i64 x.lost, .int .i64 x.built, .int .i64 x.seq, .int .i64 x.tail, .int .i64 x.gen, .slice ad ds.length cd, .int .i64 x.fuse, .bool x.down, .bool x.broken] 33)).alloc (.cells #[.int .i64 0, .int .i64 0, .int .i64 0, .slice none 0 0, .int .i64 0, .int .i64 0, .int .i64 0, .int .i64 0, .int .i64 0, .slice none 0 0, .int .i64 0, .bool false, .bool false] 33) = W at hA X0 R0 zX zR r0 r1 k0 k1 k2 k3 k4 k5 k6 k7 k8 k9 k10 k11 k12 ⊢
 refine (copyArr_any _ E F G x _ _ _ _ _ _ ms ds r0 r1 hw).mono ?_
 rintro e w1 ⟨bm, cm1, bd, cd1, mx, rfl, om, od, zm, zm2, b1⟩
 have bn := new_below w1 (.cells #[.int .i64 x.id, .int .i64 x.n, .int .i64 x.s, .slice bm ms.length cm1, .int .i64 x.lost, .int .i64 x.built, .int .i64 x.seq, .int .i64 x.tail, .int .i64 x.gen, .slice bd ds.length cd1, .int .i64 x.fuse, .bool x.down, .bool x.broken] 33)
 have b12 : Below W.heap.size W (w1.alloc (.cells #[.int .i64 x.id, .int .i64 x.n, .int .i64 x.s, .slice bm ms.length cm1, .int .i64 x.lost, .int .i64 x.built, .int .i64 x.seq, .int .i64 x.tail, .int .i64 x.gen, .slice bd ds.length cd1, .int .i64 x.fuse, .bool x.down, .bool x.broken] 33)) := Below.andThen b1 bn
 have Y := Box.new w1 33 #[.int .i64 x.id, .int .i64 x.n, .int .i64 x.s, .slice bm ms.length cm1, .int .i64 x.lost, .int .i64 x.built, .int .i64 x.seq, .int .i64 x.tail, .int .i64 x.gen, .slice bd ds.length cd1, .int .i64 x.fuse, .bool x.down, .bool x.broken]
 have zY := Y.lt
 have z1 := b1.size
 obtain ⟨fm, mm, rm⟩ := (om.below bn).mine
 obtain ⟨fd, md, rd⟩ := (od.below bn).mine
 have A2 : ArrAt (w1.alloc (.cells #[.int .i64 x.id, .int .i64 x.n, .int .i64 x.s, .slice bm ms.length cm1, .int .i64 x.lost, .int .i64 x.built, .int .i64 x.seq, .int .i64 x.tail, .int .i64 x.gen, .slice bd ds.length cd1, .int .i64 x.fuse, .bool x.down, .bool x.broken] 33)) w1.heap.size x ms ds fm fd := ⟨bm, bd, cm1, cd1, Y, mm, md, fun b hb hb' => by have h1 := rm b hb; have h2 := rd b hb'; omega, fun hm => by have := rm _ hm; omega, fun hm => by have := rd _ hm; omega⟩
 have X2 := X0.below b12 zX
 have R2 := R0.below b12 zR
 have p0 := r0.below b12
 have p1 := r1.below b12
 have B2 := Below.andThen hA b12
 have rm2 : ∀ b ∈ fm, W.heap.size <= b := fun b hb => by have := rm b hb; omega
 have rd2 : ∀ b ∈ fd, W.heap.size <= b := fun b hb => by have := rd b hb; omega
 clear k0 k1 k2 k3 k4 k5 k6 k7 k8 k9 k10 k11 k12 X0 R0 r0 r1 om od b1 bn b12 Y mm rm md rd hA
 obtain ⟨k0, k1, k2, k3, k4, k5, k6, k7, k8, k9, k10, k11, k12⟩ := X2.cells13
 go_wp2_with fail
 generalize w1.alloc (.cells #[.int .i64 x.id, .int .i64 x.n, .int .i64 x.s, .slice bm ms.length cm1, .int .i64 x.lost, .int .i64 x.built, .int .i64 x.seq, .int .i64 x.tail, .int .i64 x.gen, .slice bd ds.length cd1, .int .i64 x.fuse, .bool x.down, .bool x.broken] 33) = w2 at A2 X2 R2 p0 p1 B2 zY k0 k1 k2 k3 k4 k5 k6 k7 k8 k9 k10 k11 k12 ⊢
 obtain ⟨B, hB⟩ : ∃ B, w1.heap.size = B := ⟨_, rfl⟩
 rw [hB] at A2 zY z1 ⊢
 clear hB
 refine (implArrOk_any _ E F G x _ _ _ _ _ _ ms ds p0 p1 hw).mono ?_
 rintro e w3 ⟨rfl, b3⟩
 have A3 := A2.below b3
 have X3 := X2.below b3 X2.lt
 have R3 := R2.below b3 R2.lt
 have B3 := Below.andThen B2 b3
 have q3 := p0.below b3
 have z3 := b3.size
 clear k0 k1 k2 k3 k4 k5 k6 k7 k8 k9 k10 k11 k12 A2 X2 R2 p0 p1 B2 b3
 obtain ⟨k0, k1, k2, k3, k4, k5, k6, k7, k8, k9, k10, k11, k12⟩ := X3.cells13
 cases ha : arrB x ms ds
 . have HV : Hid (failO x ms ds m = (x, ms)) := fail_no (by unfold failB; rw [ha]; rfl)
   obtain ⟨vm, vd, cvm, cvd, Yf, mf, df, hrf, r1f, r2f⟩ := A3
   have Y0 := Yf
   unfold arrC at Y0
   obtain ⟨t0, t1, t2, t3, t4, t5, t6, t7, t8, t9, t10, t11, t12⟩ := Y0.cells13
   obtain ⟨s0, s1, s2, s3, s4, s5, s6, s7, s8, s9, s10, s11, s12⟩ := R3.cells13
   have fzr := R3.frozen
   have HO := hidden (arr_out (y := x) (e := .returned (.agg (arrC x _ _))) B3 R3 rfl mf df hrf rm2 rd2 (by omega) (by omega))
   unfold arrC at HO
   simp only [puts] at HO
   clear X3 R3 B3 Yf Y0 mf df
   go_wp2
   refine bodyPost_ret (v := .agg #[.int .i64 x.id, .int .i64 x.n, .int .i64 x.s, .slice vm ms.length cvm, .int .i64 x.lost, .int .i64 x.built, .int .i64 x.seq, .int .i64 x.tail, .int .i64 x.gen, .slice vd ds.length cvd, .int .i64 x.fuse, .bool x.down, .bool x.broken]) (by simp [results, Tryz.results11, go_sem, s0, s1, s2, s3, s4, s5, s6, s7, s8, s9, s10, s11, s12]) rfl ?_
   rw [HV.out]; exact HO.out
 obtain ⟨fc, mk, gc0, gc1⟩ := arr_facts ha
 go_wp2_with fail
 refine (hasDisk_any _ x _ _ _ _ _ _ m).mono ?_
 rintro e w4 ⟨rfl, b4⟩
 have A4 := A3.below b4
 have X4 := X3.below b4 X3.lt
 have R4 := R3.below b4 R3.lt
 have B4 := Below.andThen B3 b4
 have q4 := q3.below b4
 have z4 := b4.size
 clear k0 k1 k2 k3 k4 k5 k6 k7 k8 k9 k10 k11 k12 A3 X3 R3 B3 b4 q3
 obtain ⟨k0, k1, k2, k3, k4, k5, k6, k7, k8, k9, k10, k11, k12⟩ := X4.cells13
 cases hm : inB m 0 ((ms.length : Int) - 1)
 . have HV : Hid (failO x ms ds m = (x, ms)) := fail_no (by unfold failB; rw [ha, hm]; rfl)
   obtain ⟨vm, vd, cvm, cvd, Yf, mf, df, hrf, r1f, r2f⟩ := A4
   have Y0 := Yf
   unfold arrC at Y0
   obtain ⟨t0, t1, t2, t3, t4, t5, t6, t7, t8, t9, t10, t11, t12⟩ := Y0.cells13
   obtain ⟨s0, s1, s2, s3, s4, s5, s6, s7, s8, s9, s10, s11, s12⟩ := R4.cells13
   have fzr := R4.frozen
   have HO := hidden (arr_out (y := x) (e := .returned (.agg (arrC x _ _))) B4 R4 rfl mf df hrf rm2 rd2 (by omega) (by omega))
   unfold arrC at HO
   simp only [puts] at HO
   clear X4 R4 B4 Yf Y0 mf df
   go_wp2
   refine bodyPost_ret (v := .agg #[.int .i64 x.id, .int .i64 x.n, .int .i64 x.s, .slice vm ms.length cvm, .int .i64 x.lost, .int .i64 x.built, .int .i64 x.seq, .int .i64 x.tail, .int .i64 x.gen, .slice vd ds.length cvd, .int .i64 x.fuse, .bool x.down, .bool x.broken]) (by simp [results, Tryz.results11, go_sem, s0, s1, s2, s3, s4, s5, s6, s7, s8, s9, s10, s11, s12]) rfl ?_
   rw [HV.out]; exact HO.out
 obtain ⟨m1, m2⟩ := inB_iff.1 hm
 obtain ⟨j, rfl⟩ := Int.eq_ofNat_of_zero_le m1
 have hj : j < ms.length := by omega
 have i1 : (0 : Int) <= (j : Int) := by omega
 have i3 : (j : Int) < (ms.length : Int) := by omega
 obtain ⟨d, hdj⟩ : ∃ d, ms[j]? = some d := ⟨_, List.getElem?_eq_getElem hj⟩
 have hgd : ms.getD j memZ = d := getD_at hdj
 rcases quads_at rfl q4 with h0' | ⟨b, off, rfl, hbl, hcs⟩
 . omega
 obtain ⟨v0, v1, v2, v3, q0, q1, q2, q3', hrv⟩ := hcs j d hdj
 obtain ⟨a0, c0, a1, c1, a3, c3, ss, cs, f, bs, hde, rfl, rfl, rfl, rfl, p0, p1, p3⟩ := mem_at hrv
 have hf2 : f = d.2.2.1 := by rw [hde]
 rw [hf2] at q2
 clear p0 p1 p3 hcs hrv q0 q1 q3' hde hf2 k0 k1 k2 k3 k4 k5 k6 k7 k8 k9 k10 k11 k12
 clear a0 c0 a1 c1 a3 c3 ss cs f bs
 obtain ⟨k0, k1, k2, k3, k4, k5, k6, k7, k8, k9, k10, k11, k12⟩ := X4.cells13
 cases hff : d.2.2.1
 case true =>
  rw [hff] at q2
  have HV : Hid (failO x ms ds (j : Int) = (x, ms)) := fail_no (by unfold failB; rw [Int.toNat_natCast, hgd, hff]; simp)
  clear hff
  obtain ⟨vm, vd, cvm, cvd, Yf, mf, df, hrf, r1f, r2f⟩ := A4
  have Y0 := Yf
  unfold arrC at Y0
  obtain ⟨t0, t1, t2, t3, t4, t5, t6, t7, t8, t9, t10, t11, t12⟩ := Y0.cells13
  obtain ⟨s0, s1, s2, s3, s4, s5, s6, s7, s8, s9, s10, s11, s12⟩ := R4.cells13
  have fzr := R4.frozen
  have HO := hidden (arr_out (y := x) (e := .returned (.agg (arrC x _ _))) B4 R4 rfl mf df hrf rm2 rd2 (by omega) (by omega))
  unfold arrC at HO
  simp only [puts] at HO
  clear X4 R4 B4 Yf Y0 mf df
  go_wp2
  refine bodyPost_ret (v := .agg #[.int .i64 x.id, .int .i64 x.n, .int .i64 x.s, .slice vm ms.length cvm, .int .i64 x.lost, .int .i64 x.built, .int .i64 x.seq, .int .i64 x.tail, .int .i64 x.gen, .slice vd ds.length cvd, .int .i64 x.fuse, .bool x.down, .bool x.broken]) (by simp [results, Tryz.results11, go_sem, s0, s1, s2, s3, s4, s5, s6, s7, s8, s9, s10, s11, s12]) rfl ?_
  rw [HV.out]; exact HO.out
 rw [hff] at q2
 have HB : Hid (failB x ms ds (j : Int) = true) := by unfold Hid failB; rw [ha, hm, Int.toNat_natCast, hgd, hff]; rfl
 clear hff
 obtain ⟨bmf, bdf, cmf, cdf, Y, mmf, ddf, hrf, r1f, r2f⟩ := A4
 obtain ⟨gm, hbm⟩ := row_head mmf (by omega)
 subst hbm
 have HVF := hidden (fail_of HB.out)
 have HFX := hidden (fail_mark (ds := ds) ha hj)
 have HFB := hidden (fail_broken (x := x) (ms := ms) (m := j))
 have hms2 : MsOk (ms.set j (failM d)) := mk.set (failM_ok _ (mk j _ hdj))
 have HW2 := hidden (fail_light (ds := ds) hdj hw)
 have hgl := mmf.lt gm (row_mem11 mmf)
 rw [hgd] at HFX HFB
 obtain ⟨_, a0, a1, a3, c0, c1, c3, ss, cs, f, bs, rfl, q0, q1, q2', q3, p0, p1, p3⟩ := disk_at mmf hdj
 have hwd := Nat.le_trans (inner_leM hdj) hwm
 have Y0 := Y
 unfold arrC at Y0
 have zB := Y.lt
 have Y00 := Y0.cells13
 have hS : w4.drew.cell? ⟨B, 3, none⟩ = some (.slice (some ⟨gm, 0, none⟩) ms.length cmf) /\ w4.drew.cell? ⟨gm, j * 4, none⟩ = some (.slice a0 ss.length c0) /\ w4.drew.cell? ⟨gm, j * 4 + 1, none⟩ = some (.slice a1 cs.length c1) /\ w4.drew.cell? ⟨gm, j * 4 + 2, none⟩ = some (.bool f) /\ w4.drew.cell? ⟨gm, j * 4 + 3, none⟩ = some (.slice a3 bs.length c3) := ⟨Y00.2.2.2.1, q0, q1, q2', q3⟩
 have YH := hidden Y
 have MH := hidden mmf
 have DH := hidden ddf
 have P0 := hidden p0
 have P1 := hidden p1
 have P3 := hidden p3
 have HNS := hidden hms2
 clear Y Y0 Y00 mmf ddf p0 p1 p3 hm ha hgd hms2
 go_wp2_with fail
 refine Upto.start (S := fun w' => w'.cell? ⟨B, 3, none⟩ = some (.slice (some ⟨gm, 0, none⟩) ms.length cmf) /\ w'.cell? ⟨gm, j * 4, none⟩ = some (.slice a0 ss.length c0) /\ w'.cell? ⟨gm, j * 4 + 1, none⟩ = some (.slice a1 cs.length c1) /\ w'.cell? ⟨gm, j * 4 + 2, none⟩ = some (.bool f) /\ w'.cell? ⟨gm, j * 4 + 3, none⟩ = some (.slice a3 bs.length c3)) (k := 10) (by kernel_rfl) ?_
 refine Upto.t 0 hS ?_
 refine Upto.t 1 hS ?_
 refine Upto.t 2 hS ?_
 refine Upto.t 3 hS ?_
 refine Upto.t 4 hS ?_
 refine Upto.t 5 hS ?_
 refine Upto.t 6 hS ?_
 refine Upto.t 7 hS ?_
 refine Upto.one (i := 8) (by kernel_rfl) rfl (fun K hK => ?_)
 go_simp
 refine (implFailMem_any _ 109 _ _ _ _ _ _ _ _ _ ss cs f bs P0.out.drew P1.out.drew P3.out.drew hwd).mono ?_
 rintro e w6 ⟨u0, u1, u3, rfl, o6, b6'⟩
 have b6 : Below w4.heap.size w4 w6 := (Below.refl w4.heap.size w4).drew.trans b6'
 have o6b : (tMem 109).Own w6 w4.heap.size w6.heap.size [u0, u1, .bool true, u3] (failM (ss, cs, f, bs)) := o6
 obtain ⟨d0, l0, f0, d1, l1, f1, d3, l3, f3, hv0, hv1, hv3⟩ := mem_slices o6b
 subst hv0 hv1 hv3
 obtain ⟨fpx, mx6, rx⟩ := o6b.mine
 obtain ⟨cOld, fz, hgm, fm9, hA9, hMv9⟩ := arr_store (m := j) YH.out MH.out DH.out hrf r1f r2f b6 hj mx6 (fun b hb => (rx b hb).1)
 obtain ⟨y0, t0⟩ := cOld 0 (by omega)
 obtain ⟨y1, t1⟩ := cOld 1 (by omega)
 obtain ⟨y2, t2⟩ := cOld 2 (by omega)
 obtain ⟨y3, t3⟩ := cOld 3 (by omega)
 rw [Nat.add_zero] at t0
 have HA := hidden hA9
 have HMV := hidden hMv9
 have hS2 : w6.cell? ⟨B, 3, none⟩ = some (.slice (some ⟨gm, 0, none⟩) ms.length cmf) /\ w6.cell? ⟨gm, j * 4, none⟩ = some (.slice a0 ss.length c0) /\ w6.cell? ⟨gm, j * 4 + 1, none⟩ = some (.slice a1 cs.length c1) /\ w6.cell? ⟨gm, j * 4 + 2, none⟩ = some (.bool f) /\ w6.cell? ⟨gm, j * 4 + 3, none⟩ = some (.slice a3 bs.length c3) := ⟨(b6.cell (p := ⟨B, 3, none⟩) zB).trans hS.1, (b6.cell (p := ⟨gm, j * 4, none⟩) hgl).trans hS.2.1, (b6.cell (p := ⟨gm, j * 4 + 1, none⟩) hgl).trans hS.2.2.1, (b6.cell (p := ⟨gm, j * 4 + 2, none⟩) hgl).trans hS.2.2.2.1, (b6.cell (p := ⟨gm, j * 4 + 3, none⟩) hgl).trans hS.2.2.2.2⟩
 have gB : ¬ gm = B := fun e => r1f (e ▸ hgm)
 unfold put4 at HA HMV
 clear o6 o6b b6 b6' mx6 rx cOld hA9 hMv9 YH MH DH P0 P1 P3
 go_wp2_with fail
 refine hK.out _ _ (fun _ => hS2) ?_
 clear hK K
 refine Upto.t 9 hS2 ?_
 refine Upto.one (i := 10) (by kernel_rfl) rfl (fun K hK => ?_)
 go_simp
 refine hK.out _ _ (fun h => absurd rfl h) ?_
 clear hK K
 refine Upto.done (by kernel_rfl) ?_ _
 clear hS hS2 t0 t1 t2 t3 fz
 generalize (((w6.setCell ⟨gm, j * 4, none⟩ (.slice d0 l0 f0)).setCell ⟨gm, j * 4 + 1, none⟩ (.slice d1 l1 f1)).setCell ⟨gm, j * 4 + 2, none⟩ (.bool true)).setCell ⟨gm, j * 4 + 3, none⟩ (.slice d3 l3 f3) = w7 at HA HMV ⊢
 obtain ⟨ns, hns⟩ : ∃ ns, ms.set j (failM (ss, cs, f, bs)) = ns := ⟨_, rfl⟩
 rw [hns] at HA HFX HFB HW2 HNS
 clear hns
 have A7 := HA.out
 have rm7 : ∀ b ∈ fm9, W.heap.size <= b := fun b hb => by rcases HMV.out.2 b hb with h | h; exact rm2 b h; omega
 have R7 := HMV.out.box R4 (by omega) (fun hm => by have := rm2 _ hm; omega)
 have B7 := B4.trans (HMV.out.belowN (N := w.heap.size) (by omega) (fun b hb => by have := rm2 b hb; omega) (by omega))
 have z7 := HMV.out.size
 clear HA HMV R4 B4 X4 k0 k1 k2 k3 k4 k5 k6 k7 k8 k9 k10 k11 k12 q2
 go_wp2_with fail
 refine (loseDisk_any _ B x ns ds fm9 fd A7 (j : Int)).mono ?_
 rintro e w8 ⟨rfl, A8, b8⟩
 have R8 := R7.kept (b8.block _ R7.lt (by omega))
 have B8 := Below.andBut B7 b8 (by omega)
 have z8 := b8.size
 rw [lose_fail] at A8
 clear A7 R7 B7 b8
 generalize failX x (j : Int) = y at A8 HFX HFB
 obtain ⟨y0, y1, y2, y4, y5, y6, y7, y8, y10, y11, y12⟩ := y
 obtain ⟨vm, vd, cvm, cvd, Yf, mf, df, hrf, r1f, r2f⟩ := A8
 have Y0 := Yf
 dsimp only [arrC] at Y0
 obtain ⟨t0, t1, t2, t3, t4, t5, t6, t7, t8, t9, t10, t11, t12⟩ := Y0.cells13
 obtain ⟨s0, s1, s2, s3, s4, s5, s6, s7, s8, s9, s10, s11, s12⟩ := R8.cells13
 have fzr := R8.frozen
 cases y12
 case true =>
  have HV := hidden (HVF.out.trans (HFB.out rfl))
  have HO := hidden (arr_out (y := (⟨y0, y1, y2, y4, y5, y6, y7, y8, y10, y11, true⟩ : ArrN)) (e := .returned (.agg (arrC (⟨y0, y1, y2, y4, y5, y6, y7, y8, y10, y11, true⟩ : ArrN) _ _))) B8 R8 rfl mf df hrf rm7 rd2 (by omega) (by omega))
  dsimp only [arrC, puts] at HO
  clear R8 B8 Yf Y0 mf df HFX HFB HVF
  go_wp2
  refine bodyPost_ret (v := .agg #[.int .i64 y0, .int .i64 y1, .int .i64 y2, .slice vm ns.length cvm, .int .i64 y4, .int .i64 y5, .int .i64 y6, .int .i64 y7, .int .i64 y8, .slice vd ds.length cvd, .int .i64 y10, .bool y11, .bool true]) (by simp [results, Tryz.results11, go_sem, s0, s1, s2, s3, s4, s5, s6, s7, s8, s9, s10, s11, s12]) rfl ?_
  rw [HV.out]; exact HO.out
 have HFX2 := hidden (HVF.out.trans (HFX.out rfl).symm)
 have RM := hidden mf.rd
 have RD := hidden df.rd
 clear Yf Y0 mf df HFX HFB HVF s0 s1 s2 s3 s4 s5 s6 s7 s8 s9 s10 s11 s12 fzr
 obtain ⟨z, os, hz⟩ : ∃ z os, markO (⟨y0, y1, y2, y4, y5, y6, y7, y8, y10, y11, false⟩ : ArrN) ns ds = (z, os) := ⟨_, _, rfl⟩
 rw [hz] at HFX2
 have HZ := hidden hz
 clear hz
 have HMK := hidden (implMark_any w8 _ _ _ (⟨y0, y1, y2, y4, y5, y6, y7, y8, y10, y11, false⟩ : ArrN) _ _ _ _ _ _ ns ds RM.out RD.out HW2.out)
 rw [HZ.out] at HMK
 dsimp only at HMK
 go_wp2_with fail
 refine HMK.out.mono ?_
 rintro e w9 ⟨gm9, gd9, gcm9, gcd9, rfl, ⟨fm10, fd10, mk10, dk10, hr10, rm10, rd10⟩, b9⟩
 have R9 := R8.below b9 R8.lt
 have B9 := Below.andThen B8 b9
 have z9 := b9.size
 have zR8 := R8.lt
 obtain ⟨s0, s1, s2, s3, s4, s5, s6, s7, s8, s9, s10, s11, s12⟩ := R9.cells13
 have fzr := R9.frozen
 have HO := hidden (arr_out (y := z) (e := .returned (.agg (arrC z _ _))) B9 R9 rfl mk10 dk10 hr10 (lo := w8.heap.size) (fun b hb => (rm10 b hb).1) (fun b hb => (rd10 b hb).1) (by omega) (by omega))
 unfold arrC at HO
 simp only [puts] at HO
 unfold arrC
 dsimp only
 clear t0 t1 t2 t3 t4 t5 t6 t7 t8 t9 t10 t11 t12 R8 B8 b9 R9 B9 mk10 dk10 HMK
 go_wp2
 refine bodyPost_ret (v := .agg #[.int .i64 z.id, .int .i64 z.n, .int .i64 z.s, .slice gm9 os.length gcm9, .int .i64 z.lost, .int .i64 z.built, .int .i64 z.seq, .int .i64 z.tail, .int .i64 z.gen, .slice gd9 ds.length gcd9, .int .i64 z.fuse, .bool z.down, .bool z.broken]) (by simp [results, Tryz.results11, go_sem, s0, s1, s2, s3, s4, s5, s6, s7, s8, s9, s10, s11, s12]) rfl ?_
 rw [HFX2.out]; exact HO.out

theorem heldMemS_any (w : World) (E F : TypeId) (a : Option Addr) (n cap : Nat) (d : List MemD) (k0 : Int) (h : (tMemS E F).Rd w [.slice a n cap] (markMS k0 d)) (hw : wtMemS d <= 2097152) (hk : 0 <= k0) (hk' : k0 + (wtMemS d : Int) <= 2097153) :
 Calls Tryz.prog 43 #[.slice a n cap, .int .i64 k0] w fun e w' => e = .returned (.int .i64 (k0 + (cntMS d : Int))) /\ Same w w' := by
 obtain ⟨hl, hc, hm⟩ := row_length h
 have hmL : (markMS k0 d).length = d.length := markL_length _ _ _ _
 rw [hmL] at hl
 have hnn : n <= 2097152 := by unfold wtMemS at hw; omega
 have hwt := cntMS_le d
 go_enter Tryz.func43, Tryz.ntmps43
 go_wp2
 go_loopw [1, 5] (fun kk i wr => ∃ j : Nat, j <= n /\ i = .int .i64 j /\ kk = .int .i64 (k0 + (sumL ((d.map cntMD).take j) : Int)) /\ Same w wr) (fun _ i _ => n - (intOf i).toNat)
 case atStart => exact ⟨0, Nat.zero_le _, rfl, by simp [sumL], Same.refl _⟩
 obtain ⟨j, hj, rfl, rfl, hs⟩ := hrel
 by_cases hjn : j < n
 . have hdj : d[j]? = some (d[j]'(by omega)) := List.getElem?_eq_getElem (by omega)
   generalize d[j]'(by omega) = x at hdj
   have hst := sumL_take (l := d.map cntMD) (j := j) (x := cntMD x) (by rw [List.getElem?_map, hdj]; rfl)
   have hle := sumL_le (l := d.map cntMD) (j + 1)
   have hin := Nat.le_trans (inner_leM hdj) hw
   unfold cntMS at hwt
   have hmj := markL_at (c := cntMD) (mk := markMD) (k := k0) hdj
   have HW := hidden hst
   generalize sumL ((d.map cntMD).take j) = S at hst hmj HW
   rcases quads_at rfl h with h0' | ⟨b, off, rfl, hbl, hcs⟩
   . omega
   obtain ⟨v0, v1, v2, v3, hv0, hv1, hv2, hv3, hrv⟩ := hcs j _ hmj
   obtain ⟨ss, cs, f, bs⟩ := x
   obtain ⟨a0, c0, a1, c1, a3, c3, ss', cs', f', bs', hx, rfl, rfl, rfl, rfl, r0, r1, r3⟩ := mem_at hrv
   have hcx : cntMD (ss, cs, f, bs) = cntSS ss + cntWS cs + 1 + bs.length := rfl
   have hin0 : wtIntSS ss <= 2097152 := by unfold wtMem at hin; simp only at hin; omega
   have hin1 : wtWrS cs <= 2097152 := by unfold wtMem at hin; simp only at hin; omega
   have hin3 : bs.length <= 2097152 := by unfold wtMem at hin; simp only at hin; omega
   have hcw := Nat.le_of_eq (cntWS_wt cs)
   have hcw' := Nat.le_of_eq (cntWS_wt cs).symm
   have hS : k0 + (S : Int) + (cntSS ss : Int) + (cntWS cs : Int) + 1 + (bs.length : Int) <= 2097153 := by omega
   unfold markMD at hx
   simp only [Prod.mk.injEq] at hx
   obtain ⟨e0, e1, e2, e3⟩ := hx
   subst e0
   subst e1
   subst e3
   rw [marks_length] at hv3 r3
   have w0 := (hs.cell _).trans hv0
   have w1 := (hs.cell _).trans hv1
   have w2 := (hs.cell _).trans hv2
   have w3 := (hs.cell _).trans hv3
   have HE2 := hidden e2
   have i1 : (0 : Int) <= (j : Int) := by omega
   have i2 : (j : Int) < (n : Int) := by omega
   have R0 := r0.same hs
   have R1 := r1.same hs
   have R3 := r3.same hs
   clear hcs hst hdj hv0 hv1 hv2 hv3 hrv hmj e2 r0 r1 r3
   go_wp2_with fail
   refine (heldIntSS_any _ _ _ _ ss _ R0 hin0 (by omega) (by omega)).mono ?_
   rintro e u1 ⟨rfl, s1⟩
   have w1' := (s1.cell _).trans w1
   have w2' := (s1.cell _).trans w2
   have w3' := (s1.cell _).trans w3
   have R1' := R1.same s1
   have R3' := R3.same s1
   clear w0 w1 w2 w3 R0 R1 R3
   have p1 : ¬ k0 + (S : Int) + (cntSS ss : Int) < 0 := by omega
   go_wp2_with fail
   refine (heldWrS_any _ E _ _ _ cs _ R1' hin1 (by omega) (by omega)).mono ?_
   rintro e u2 ⟨rfl, s2⟩
   have w2 := (s2.cell _).trans w2'
   have w3 := (s2.cell _).trans w3'
   have R3 := ints_rd (R3'.same s2)
   clear w1' w2' w3' R1' R3'
   have hK : 0 <= k0 + (S : Int) + (cntSS ss : Int) + (cntWS cs : Int) /\ k0 + (S : Int) + (cntSS ss : Int) + (cntWS cs : Int) <= 2097153 := by omega
   have HKK : Hid (k0 + (S : Int) + (cntSS ss : Int) + (cntWS cs : Int) + 1 + (bs.length : Int) = k0 + ((S + cntMD (ss, cs, f, bs) : Nat) : Int)) := by unfold Hid; rw [hcx]; omega
   generalize hKd : k0 + (S : Int) + (cntSS ss : Int) + (cntWS cs : Int) = K at hK HKK HE2 R3 hS ⊢
   clear hKd
   have p2 : ¬ K < 0 := by omega
   have t1 : K.tmod 3 = K % 3 := Int.tmod_eq_emod_of_nonneg hK.1
   have t2 : IntKind.i64.wrap (K % 3) = K % 3 := IntWalk.i64_in _ (by omega)
   have t3 : IntKind.i64.wrap (K + 1) = K + 1 := IntWalk.i64_in _ (by omega)
   have p3 : ¬ K + 1 + (bs.length : Int) < 0 := by omega
   have t4 : f' = (K % 3 == 0) := by rw [← HE2.out]; rfl
   have t5 : ((K % 3 == 0) != (K % 3 == 0)) = false := by simp
   have t6 : ((K % 3 == 0) == (K % 3 == 0)) = true := by simp
   subst t4
   clear HE2
   go_wp2_with fail
   refine (heldIntS_any _ _ _ _ _ R3.1 (by omega) (by omega) (by omega)).mono ?_
   rintro e u3 ⟨rfl, s3⟩
   have HS := hidden (((hs.trans s1).trans s2).trans s3)
   clear s1 s2 s3 hs R3 w2 w3
   go_wp2
   go_roundw
   case rel => exact ⟨j + 1, by omega, by go_num, by rw [HW.out, HKK.out], HS.out⟩
   case measure => simp [intOf]; omega
 have ej : j = n := by omega
 subst ej
 have ht : (d.map cntMD).take j = d.map cntMD := List.take_of_length_le (by simp; omega)
 have HT : Hid (k0 + (sumL ((d.map cntMD).take j) : Int) = k0 + (cntMS d : Int)) := by unfold Hid cntMS; rw [ht]
 clear ht
 go_wp2
 go_ret
 exact ⟨ret_int HT.out, hs⟩

theorem heldArr_any (w : World) (E F G : TypeId) (x : ArrN) (bm bd : Option Addr) (nm cm nd cd : Nat) (ms : List MemD) (ds : List (Int × List Int)) (h0 : (tMemS E F).Rd w [.slice bm nm cm] (markMS 1 ms)) (h1 : (tWrS G).Rd w [.slice bd nd cd] (markW (1 + (cntMS ms : Int)) ds)) (hw : wtArr ms ds <= 2097152) :
 Calls Tryz.prog 14 #[.agg #[.int .i64 x.id, .int .i64 x.n, .int .i64 x.s, .slice bm nm cm, .int .i64 x.lost, .int .i64 x.built, .int .i64 x.seq, .int .i64 x.tail, .int .i64 x.gen, .slice bd nd cd, .int .i64 x.fuse, .bool x.down, .bool x.broken], .int .i64 1] w fun e w' => e = .returned (.int .i64 (1 + (cntMS ms : Int) + (cntWS ds : Int))) /\ Below w.heap.size w w' := by
 have hw0 : wtMemS ms <= 2097152 := by unfold wtArr at hw; omega
 have hw1 : wtWrS ds <= 2097152 := by unfold wtArr at hw; omega
 have hws : wtMemS ms + wtWrS ds <= 2097152 := by unfold wtArr at hw; omega
 have hcm := cntMS_le ms
 have hA := new_below w (.cells #[.int .i64 x.id, .int .i64 x.n, .int .i64 x.s, .slice bm nm cm, .int .i64 x.lost, .int .i64 x.built, .int .i64 x.seq, .int .i64 x.tail, .int .i64 x.gen, .slice bd nd cd, .int .i64 x.fuse, .bool x.down, .bool x.broken] 33)
 have X := Box.new w 33 #[.int .i64 x.id, .int .i64 x.n, .int .i64 x.s, .slice bm nm cm, .int .i64 x.lost, .int .i64 x.built, .int .i64 x.seq, .int .i64 x.tail, .int .i64 x.gen, .slice bd nd cd, .int .i64 x.fuse, .bool x.down, .bool x.broken]
 obtain ⟨k0, k1, k2, k3, k4, k5, k6, k7, k8, k9, k10, k11, k12⟩ := X.cells13
 have r0 := h0.below hA
 have r1 := h1.below hA
 go_enter Tryz.func14, Tryz.ntmps14
 go_wp2_with fail
 generalize w.alloc (.cells #[.int .i64 x.id, .int .i64 x.n, .int .i64 x.s, .slice bm nm cm, .int .i64 x.lost, .int .i64 x.built, .int .i64 x.seq, .int .i64 x.tail, .int .i64 x.gen, .slice bd nd cd, .int .i64 x.fuse, .bool x.down, .bool x.broken] 33) = W at hA X r0 r1 k0 k1 k2 k3 k4 k5 k6 k7 k8 k9 k10 k11 k12 ⊢
 refine (heldMemS_any _ E F _ _ _ ms _ r0 hw0 (by omega) (by omega)).mono ?_
 rintro e w1 ⟨rfl, s1⟩
 have X1 := X.same s1
 have r2 := r1.same s1
 have B1 := Below.andSame hA s1
 clear k0 k1 k2 k3 k4 k5 k6 k7 k8 k9 k10 k11 k12 X r0 r1 s1 hA
 obtain ⟨k0, k1, k2, k3, k4, k5, k6, k7, k8, k9, k10, k11, k12⟩ := X1.cells13
 have p1 : ¬ 1 + (cntMS ms : Int) < 0 := by omega
 go_wp2_with fail
 refine (heldEntS_any _ G _ _ _ ds _ r2 hw1 (by omega) (by omega)).mono ?_
 rintro e w2 ⟨rfl, s2⟩
 have B2 := Below.andSame B1 s2
 have p2 : ¬ 1 + (cntMS ms : Int) + (cntWS ds : Int) < 0 := by omega
 clear k0 k1 k2 k3 k4 k5 k6 k7 k8 k9 k10 k11 k12 X1 r2 s2 B1
 go_wp2
 go_ret
 exact ⟨rfl, B2⟩

theorem fnExactFailDisk_walk (x : ArrN) (am ad : Option Addr) (nm cm nd cd : Nat) (ms : List MemD) (ds : List (Int × List Int)) (m : Int) (w : World) (h0 : (tMemS 140 78).Rd w [.slice am nm cm] ms) (h1 : (tWrS 81).Rd w [.slice ad nd cd] ds) :
 Calls Tryz.prog 3 #[.agg #[.int .i64 x.id, .int .i64 x.n, .int .i64 x.s, .slice am nm cm, .int .i64 x.lost, .int .i64 x.built, .int .i64 x.seq, .int .i64 x.tail, .int .i64 x.gen, .slice ad nd cd, .int .i64 x.fuse, .bool x.down, .bool x.broken], .int .i64 m] w fun e w' => e = .returned (.bool true) /\ Below w.heap.size w w' := by
 have hA := new_below w (.cells #[.int .i64 x.id, .int .i64 x.n, .int .i64 x.s, .slice am nm cm, .int .i64 x.lost, .int .i64 x.built, .int .i64 x.seq, .int .i64 x.tail, .int .i64 x.gen, .slice ad nd cd, .int .i64 x.fuse, .bool x.down, .bool x.broken] 27)
 have xm := Box.new w 27 #[.int .i64 x.id, .int .i64 x.n, .int .i64 x.s, .slice am nm cm, .int .i64 x.lost, .int .i64 x.built, .int .i64 x.seq, .int .i64 x.tail, .int .i64 x.gen, .slice ad nd cd, .int .i64 x.fuse, .bool x.down, .bool x.broken]
 have z0 := xm.lt
 have B0 := hidden hA
 have BR0 := hidden xm
 obtain ⟨l0, l1, l2, l3, l4, l5, l6, l7, l8, l9, l10, l11, l12⟩ := xm.cells13
 go_enter Tryz.func3, Tryz.ntmps3
 go_wp2_with fail
 generalize w.alloc (.cells #[.int .i64 x.id, .int .i64 x.n, .int .i64 x.s, .slice am nm cm, .int .i64 x.lost, .int .i64 x.built, .int .i64 x.seq, .int .i64 x.tail, .int .i64 x.gen, .slice ad nd cd, .int .i64 x.fuse, .bool x.down, .bool x.broken] 27) = w0 at hA xm z0 B0 BR0 l0 l1 l2 l3 l4 l5 l6 l7 l8 l9 l10 l11 l12 ⊢
 clear hA xm
 refine (szArr_any _ 140 78 81 x _ _ _ _ _ _ ms ds _ (h0.below B0.out) (h1.below B0.out) (by omega) (by omega)).mono ?_
 rintro e w1 ⟨rfl, hb1⟩
 clear l0 l1 l2 l3 l4 l5 l6 l7 l8 l9 l10 l11 l12
 have B1 := hidden (Below.andThen B0.out hb1)
 have BR1 := hidden (BR0.out.below hb1 (by omega))
 have z1 := hb1.size
 clear B0 BR0 hb1
 by_cases hwt : (wtArr ms ds : Int) <= 1048576
 . have hq := leftOf_pos hwt
   have hwt' : wtArr ms ds <= 1048576 := by omega
   have hwt2 : wtArr ms ds <= 2097152 := by omega
   have hwq0 := failO_wt (x := x) (m := m) hwt'
   obtain ⟨y, ns, hq0⟩ : ∃ (y : ArrN) (ns : List MemD), failO x ms ds m = (y, ns) := ⟨_, _, rfl⟩
   have HQ := hidden hq0
   have hwq : wtArr ns ds <= 2097152 := by rw [hq0] at hwq0; exact hwq0
   clear hq0 hwq0
   obtain ⟨l0, l1, l2, l3, l4, l5, l6, l7, l8, l9, l10, l11, l12⟩ := BR1.out.cells13
   go_wp2_with fail
   refine (toArr_any _ 140 78 81 x _ _ _ _ _ _ ms ds (h0.below B1.out) (h1.below B1.out) hwt').mono ?_
   rintro e w2 ⟨bm2, bd2, rfl, om2, od2, ya2, yb2, hb2⟩
   clear l0 l1 l2 l3 l4 l5 l6 l7 l8 l9 l10 l11 l12
   have B2 := hidden (Below.andThen B1.out hb2)
   have BR2 := hidden (BR1.out.below hb2 (by omega))
   have z2 := hb2.size
   clear B1 BR1 hb2
   have Cm2 := hidden om2
   clear om2
   have Cd2 := hidden od2
   clear od2
   go_wp2_with fail
   refine (specFailDisk_any _ 109 51 82 x _ _ _ _ _ _ ms ds m Cm2.out.rd Cd2.out.rd hwt2).mono ?_
   rintro e w3 ho3
   rw [HQ.out] at ho3
   obtain ⟨a3, d3, c3, b3, rfl, o3, hb3⟩ := ho3
   dsimp only at o3
   unfold arrC
   have B3 := hidden (Below.andThen B2.out hb3)
   have BR3 := hidden (BR2.out.below hb3 (by omega))
   have Cm3 := hidden (Cm2.out.below hb3)
   have Cd3 := hidden (Cd2.out.below hb3)
   have z3 := hb3.size
   clear B2 BR2 Cm2 Cd2 hb3
   have W3 := hidden o3
   clear o3
   clear Cm3
   clear Cd3
   have ba : Below w3.heap.size w3 (w3.alloc (.cells #[.int .i64 y.id, .int .i64 y.n, .int .i64 y.s, .slice a3 ns.length c3, .int .i64 y.lost, .int .i64 y.built, .int .i64 y.seq, .int .i64 y.tail, .int .i64 y.gen, .slice d3 ds.length b3, .int .i64 y.fuse, .bool y.down, .bool y.broken] 33)) := (Below.refl _ _).alloc (Nat.le_refl _) _
   have xb := Box.new w3 33 #[.int .i64 y.id, .int .i64 y.n, .int .i64 y.s, .slice a3 ns.length c3, .int .i64 y.lost, .int .i64 y.built, .int .i64 y.seq, .int .i64 y.tail, .int .i64 y.gen, .slice d3 ds.length b3, .int .i64 y.fuse, .bool y.down, .bool y.broken]
   have zx4 := xb.lt
   have B4 := hidden (Below.andThen B3.out ba)
   have BR4 := hidden (BR3.out.below ba (by omega))
   have W4 := hidden (W3.out.below ba)
   have z4 := ba.size
   clear B3 BR3 W3 ba
   have WB4 := hidden xb
   clear xb
   obtain ⟨l0, l1, l2, l3, l4, l5, l6, l7, l8, l9, l10, l11, l12⟩ := BR4.out.cells13
   go_wp2_with fail
   generalize w3.alloc (.cells #[.int .i64 y.id, .int .i64 y.n, .int .i64 y.s, .slice a3 ns.length c3, .int .i64 y.lost, .int .i64 y.built, .int .i64 y.seq, .int .i64 y.tail, .int .i64 y.gen, .slice d3 ds.length b3, .int .i64 y.fuse, .bool y.down, .bool y.broken] 33) = w4 at B4 BR4 W4 WB4 z4 zx4 l0 l1 l2 l3 l4 l5 l6 l7 l8 l9 l10 l11 l12 ⊢
   clear l0 l1 l2 l3 l4 l5 l6 l7 l8 l9 l10 l11 l12
   obtain ⟨l0, l1, l2, l3, l4, l5, l6, l7, l8, l9, l10, l11, l12⟩ := BR4.out.cells13
   refine (toArr_any _ 140 78 81 x _ _ _ _ _ _ ms ds (h0.below B4.out) (h1.below B4.out) hwt').mono ?_
   rintro e w5 ⟨bm5, bd5, rfl, om5, od5, ya5, yb5, hb5⟩
   clear l0 l1 l2 l3 l4 l5 l6 l7 l8 l9 l10 l11 l12
   have B5 := hidden (Below.andThen B4.out hb5)
   have BR5 := hidden (BR4.out.below hb5 (by omega))
   have W5 := hidden (W4.out.below hb5)
   have WB5 := hidden (WB4.out.below hb5 (by omega))
   have z5 := hb5.size
   clear B4 BR4 W4 WB4 hb5
   have Dm5 := hidden om5
   clear om5
   have Dd5 := hidden od5
   clear od5
   have ba : Below w5.heap.size w5 (w5.alloc (.cells #[.int .i64 x.id, .int .i64 x.n, .int .i64 x.s, .slice (some ⟨bm5, 0, none⟩) nm nm, .int .i64 x.lost, .int .i64 x.built, .int .i64 x.seq, .int .i64 x.tail, .int .i64 x.gen, .slice (some ⟨bd5, 0, none⟩) nd nd, .int .i64 x.fuse, .bool x.down, .bool x.broken] 33)) := (Below.refl _ _).alloc (Nat.le_refl _) _
   have xb := Box.new w5 33 #[.int .i64 x.id, .int .i64 x.n, .int .i64 x.s, .slice (some ⟨bm5, 0, none⟩) nm nm, .int .i64 x.lost, .int .i64 x.built, .int .i64 x.seq, .int .i64 x.tail, .int .i64 x.gen, .slice (some ⟨bd5, 0, none⟩) nd nd, .int .i64 x.fuse, .bool x.down, .bool x.broken]
   have zx := xb.lt
   have B6 := hidden (Below.andThen B5.out ba)
   have BR6 := hidden (BR5.out.below ba (by omega))
   have W6 := hidden (W5.out.below ba)
   have WB6 := hidden (WB5.out.below ba (by omega))
   have Dm6 := hidden (Dm5.out.below ba)
   have Dd6 := hidden (Dd5.out.below ba)
   have z6 := ba.size
   clear B5 BR5 W5 WB5 Dm5 Dd5 ba
   have BX6 := hidden xb
   clear xb
   obtain ⟨q0, q1, q2, q3, q4, q5, q6, q7, q8, q9, q10, q11, q12⟩ := BX6.out.cells13
   go_wp2_with fail
   generalize w5.alloc (.cells #[.int .i64 x.id, .int .i64 x.n, .int .i64 x.s, .slice (some ⟨bm5, 0, none⟩) nm nm, .int .i64 x.lost, .int .i64 x.built, .int .i64 x.seq, .int .i64 x.tail, .int .i64 x.gen, .slice (some ⟨bd5, 0, none⟩) nd nd, .int .i64 x.fuse, .bool x.down, .bool x.broken] 33) = w6 at B6 BR6 W6 WB6 Dm6 Dd6 BX6 z6 zx q0 q1 q2 q3 q4 q5 q6 q7 q8 q9 q10 q11 q12 ⊢
   refine (implFailDisk_any _ 109 51 82 x _ _ _ _ _ _ ms ds m Dm6.out.rd Dd6.out.rd hwt2).mono ?_
   rintro e w7 ho7
   rw [HQ.out] at ho7
   obtain ⟨a7, d7, c7, b7, rfl, o7, hb7⟩ := ho7
   dsimp only at o7
   unfold arrC
   have B7 := hidden (Below.andThen B6.out hb7)
   have BR7 := hidden (BR6.out.below hb7 (by omega))
   have W7 := hidden (W6.out.below hb7)
   have WB7 := hidden (WB6.out.below hb7 (by omega))
   have Dm7 := hidden (Dm6.out.below hb7)
   have Dd7 := hidden (Dd6.out.below hb7)
   have BX7 := hidden (BX6.out.below hb7 (by omega))
   have z7 := hb7.size
   clear B6 BR6 W6 WB6 Dm6 Dd6 BX6 hb7
   have G7 := hidden o7
   clear o7
   clear q0 q1 q2 q3 q4 q5 q6 q7 q8 q9 q10 q11 q12
   have ba : Below w7.heap.size w7 (w7.alloc (.cells #[.int .i64 y.id, .int .i64 y.n, .int .i64 y.s, .slice a7 ns.length c7, .int .i64 y.lost, .int .i64 y.built, .int .i64 y.seq, .int .i64 y.tail, .int .i64 y.gen, .slice d7 ds.length b7, .int .i64 y.fuse, .bool y.down, .bool y.broken] 33)) := (Below.refl _ _).alloc (Nat.le_refl _) _
   have xb := Box.new w7 33 #[.int .i64 y.id, .int .i64 y.n, .int .i64 y.s, .slice a7 ns.length c7, .int .i64 y.lost, .int .i64 y.built, .int .i64 y.seq, .int .i64 y.tail, .int .i64 y.gen, .slice d7 ds.length b7, .int .i64 y.fuse, .bool y.down, .bool y.broken]
   have zx8 := xb.lt
   have B8 := hidden (Below.andThen B7.out ba)
   have BR8 := hidden (BR7.out.below ba (by omega))
   have W8 := hidden (W7.out.below ba)
   have WB8 := hidden (WB7.out.below ba (by omega))
   have Dm8 := hidden (Dm7.out.below ba)
   have Dd8 := hidden (Dd7.out.below ba)
   have BX8 := hidden (BX7.out.below ba (by omega))
   have G8 := hidden (G7.out.below ba)
   have z8 := ba.size
   clear B7 BR7 W7 WB7 Dm7 Dd7 BX7 G7 ba
   have GB8 := hidden xb
   clear xb
   obtain ⟨p0, p1, p2, p3, p4, p5, p6, p7, p8, p9, p10, p11, p12⟩ := GB8.out.cells13
   obtain ⟨q0, q1, q2, q3, q4, q5, q6, q7, q8, q9, q10, q11, q12⟩ := WB8.out.cells13
   go_wp2_with fail
   generalize w7.alloc (.cells #[.int .i64 y.id, .int .i64 y.n, .int .i64 y.s, .slice a7 ns.length c7, .int .i64 y.lost, .int .i64 y.built, .int .i64 y.seq, .int .i64 y.tail, .int .i64 y.gen, .slice d7 ds.length b7, .int .i64 y.fuse, .bool y.down, .bool y.broken] 33) = w8 at B8 BR8 W8 WB8 Dm8 Dd8 BX8 G8 GB8 z8 zx8 p0 p1 p2 p3 p4 p5 p6 p7 p8 p9 p10 p11 p12 q0 q1 q2 q3 q4 q5 q6 q7 q8 q9 q10 q11 q12 ⊢
   refine (eqArr_same _ 109 109 51 51 82 82 y _ _ _ _ _ _ _ _ _ _ _ _ ns ds G8.out.rdm G8.out.rdd W8.out.rdm W8.out.rdd hwq).mono ?_
   rintro e w9 ⟨rfl, hb9⟩
   clear p0 p1 p2 p3 p4 p5 p6 p7 p8 p9 p10 p11 p12 q0 q1 q2 q3 q4 q5 q6 q7 q8 q9 q10 q11 q12
   have B9 := hidden (Below.andThen B8.out hb9)
   have BR9 := hidden (BR8.out.below hb9 (by omega))
   have W9 := hidden (W8.out.below hb9)
   have WB9 := hidden (WB8.out.below hb9 (by omega))
   have Dm9 := hidden (Dm8.out.below hb9)
   have Dd9 := hidden (Dd8.out.below hb9)
   have BX9 := hidden (BX8.out.below hb9 (by omega))
   have G9 := hidden (G8.out.below hb9)
   have GB9 := hidden (GB8.out.below hb9 (by omega))
   have z9 := hb9.size
   clear B8 BR8 W8 WB8 Dm8 Dd8 BX8 G8 GB8 hb9
   obtain ⟨y0, y1, y2, y3, y4, y5, y6, y7, y8, y9, y10, y11, y12⟩ := BX9.out.cells13
   obtain ⟨l0, l1, l2, l3, l4, l5, l6, l7, l8, l9, l10, l11, l12⟩ := BR9.out.cells13
   have zl := BR9.out.lt
   have zy := BX9.out.lt
   go_wp2_with fail
   refine wp_region_held_drew (S := fun w' => (w'.cell? ⟨w5.heap.size, 0, none⟩ = some (.int .i64 x.id) /\ w'.cell? ⟨w5.heap.size, 1, none⟩ = some (.int .i64 x.n) /\ w'.cell? ⟨w5.heap.size, 2, none⟩ = some (.int .i64 x.s) /\ w'.cell? ⟨w5.heap.size, 3, none⟩ = some (.slice (some ⟨bm5, 0, none⟩) nm nm) /\ w'.cell? ⟨w5.heap.size, 4, none⟩ = some (.int .i64 x.lost) /\ w'.cell? ⟨w5.heap.size, 5, none⟩ = some (.int .i64 x.built) /\ w'.cell? ⟨w5.heap.size, 6, none⟩ = some (.int .i64 x.seq) /\ w'.cell? ⟨w5.heap.size, 7, none⟩ = some (.int .i64 x.tail) /\ w'.cell? ⟨w5.heap.size, 8, none⟩ = some (.int .i64 x.gen) /\ w'.cell? ⟨w5.heap.size, 9, none⟩ = some (.slice (some ⟨bd5, 0, none⟩) nd nd) /\ w'.cell? ⟨w5.heap.size, 10, none⟩ = some (.int .i64 x.fuse) /\ w'.cell? ⟨w5.heap.size, 11, none⟩ = some (.bool x.down) /\ w'.cell? ⟨w5.heap.size, 12, none⟩ = some (.bool x.broken)) /\ w'.cell? ⟨w.heap.size, 0, none⟩ = some (.int .i64 x.id) /\ w'.cell? ⟨w.heap.size, 1, none⟩ = some (.int .i64 x.n) /\ w'.cell? ⟨w.heap.size, 2, none⟩ = some (.int .i64 x.s) /\ w'.cell? ⟨w.heap.size, 3, none⟩ = some (.slice am nm cm) /\ w'.cell? ⟨w.heap.size, 4, none⟩ = some (.int .i64 x.lost) /\ w'.cell? ⟨w.heap.size, 5, none⟩ = some (.int .i64 x.built) /\ w'.cell? ⟨w.heap.size, 6, none⟩ = some (.int .i64 x.seq) /\ w'.cell? ⟨w.heap.size, 7, none⟩ = some (.int .i64 x.tail) /\ w'.cell? ⟨w.heap.size, 8, none⟩ = some (.int .i64 x.gen) /\ w'.cell? ⟨w.heap.size, 9, none⟩ = some (.slice ad nd cd) /\ w'.cell? ⟨w.heap.size, 10, none⟩ = some (.int .i64 x.fuse) /\ w'.cell? ⟨w.heap.size, 11, none⟩ = some (.bool x.down) /\ w'.cell? ⟨w.heap.size, 12, none⟩ = some (.bool x.broken)) (by kernel_rfl) ?_ (fun hHeld => ?_)
   . exact ⟨BX9.out.cells13, BR9.out.cells13⟩
   refine held_take (i := 0) (v := ?_) rfl (by kernel_rfl) (by kernel_rfl) (by kernel_rfl) (fun _ _ _ h => h) (by kernel_rfl) ?_ hHeld ?_
   rotate_left 1
   . (intro w hSw; (try dsimp only at hSw); go_split_ands; go_simp; first | done | with_reducible rfl)
   simp only [Act.put, List.setIfInBounds_toArray, List.set_cons_zero, List.set_cons_succ]
   refine held_take (i := 1) (v := ?_) rfl (by kernel_rfl) (by kernel_rfl) (by kernel_rfl) (fun _ _ _ h => h) (by kernel_rfl) ?_ hHeld ?_
   rotate_left 1
   . (intro w hSw; (try dsimp only at hSw); go_split_ands; go_simp; first | done | with_reducible rfl)
   simp only [Act.put, List.setIfInBounds_toArray, List.set_cons_zero, List.set_cons_succ]
   refine held_one (i := 2) (by kernel_rfl) rfl (by kernel_rfl) (fun K hK => ?_)
   go_simp
   refine (toArr_any _ 140 78 81 x _ _ _ _ _ _ ms ds (h0.below B9.out).drew (h1.below B9.out).drew hwt').mono ?_
   rintro e w10 ⟨bm10, bd10, rfl, om10, od10, ya10, yb10, hb10⟩
   have hb10' : Below w9.heap.size w9 w10 := (Below.refl w9.heap.size w9).drew.trans hb10
   go_wp2_with fail
   clear hHeld
   refine hK.out _ _ ?_ (fun hHeld => ?_)
   . exact ⟨(BX9.out.below hb10' zy).cells13, (BR9.out.below hb10' zl).cells13⟩
   clear hK K
   refine held_one (i := 3) (by kernel_rfl) rfl (by kernel_rfl) (fun K hK => ?_)
   go_simp
   refine (eqArr_same _ 109 109 51 51 82 82 x _ _ _ _ _ _ _ _ _ _ _ _ ms ds (Dm9.out.below hb10').rd (Dd9.out.below hb10').rd om10.rd od10.rd hwt2).mono ?_
   rintro e w11 ⟨rfl, hb11⟩
   have hb11' : Below w9.heap.size w9 w11 := Below.andThen hb10' hb11
   go_wp2_with fail
   clear hHeld
   refine hK.out _ _ ?_ (fun hHeld => ?_)
   . exact ⟨(BX9.out.below hb11' zy).cells13, (BR9.out.below hb11' zl).cells13⟩
   clear hK K
   refine held_take (i := 4) (v := ?_) rfl (by kernel_rfl) (by kernel_rfl) (by kernel_rfl) (fun _ _ _ h => h) (by kernel_rfl) ?_ hHeld ?_
   rotate_left 1
   . (intro w hSw; (try dsimp only at hSw); go_split_ands; go_simp; first | done | with_reducible rfl)
   simp only [Act.put, List.setIfInBounds_toArray, List.set_cons_zero, List.set_cons_succ]
   refine wpAnyH_done (by kernel_rfl) ?_ _
   clear hHeld
   clear y0 y1 y2 y3 y4 y5 y6 y7 y8 y9 y10 y11 y12 l0 l1 l2 l3 l4 l5 l6 l7 l8 l9 l10 l11 l12
   clear zl zy om10 od10 ya10 yb10 hb10 hb11 hb10'
   have B11 := hidden (Below.andThen B9.out hb11')
   have BR11 := hidden (BR9.out.below hb11' (by omega))
   have W11 := hidden (W9.out.below hb11')
   have WB11 := hidden (WB9.out.below hb11' (by omega))
   have Dm11 := hidden (Dm9.out.below hb11')
   have Dd11 := hidden (Dd9.out.below hb11')
   have BX11 := hidden (BX9.out.below hb11' (by omega))
   have G11 := hidden (G9.out.below hb11')
   have GB11 := hidden (GB9.out.below hb11' (by omega))
   have z11 := hb11'.size
   clear B9 BR9 W9 WB9 Dm9 Dd9 BX9 G9 GB9 hb11'
   obtain ⟨q0, q1, q2, q3, q4, q5, q6, q7, q8, q9, q10, q11, q12⟩ := BX11.out.cells13
   go_wp2_with fail
   refine (markArr_own _ _ _ _ x _ _ _ _ _ _ ms ds Dm11.out Dd11.out (by omega) (by omega) (by omega) hwt2).mono ?_
   rintro e w12 ⟨rfl, _, _, hb12⟩
   clear q0 q1 q2 q3 q4 q5 q6 q7 q8 q9 q10 q11 q12
   clear Dm11
   clear Dd11
   clear BX11
   have B12 := hidden (Below.andBut B11.out hb12 (by omega))
   have BR12 := hidden (BR11.out.kept (hb12.block _ (by omega) (by omega)))
   have W12 := hidden (W11.out.but hb12 (by omega))
   have WB12 := hidden (WB11.out.kept (hb12.block _ (by omega) (by omega)))
   have G12 := hidden (G11.out.but hb12 (by omega))
   have GB12 := hidden (GB11.out.kept (hb12.block _ (by omega) (by omega)))
   have z12 := hb12.size
   clear B11 BR11 W11 WB11 G11 GB11 hb12
   have hcn : (0 : Int) <= 1 + (cntMS ms : Int) + (cntWS ds : Int) := by omega
   generalize 1 + (cntMS ms : Int) + (cntWS ds : Int) = cn at hcn ⊢
   obtain ⟨p0, p1, p2, p3, p4, p5, p6, p7, p8, p9, p10, p11, p12⟩ := GB12.out.cells13
   obtain ⟨q0, q1, q2, q3, q4, q5, q6, q7, q8, q9, q10, q11, q12⟩ := WB12.out.cells13
   go_wp2_with fail
   refine (eqArr_same _ 109 109 51 51 82 82 y _ _ _ _ _ _ _ _ _ _ _ _ ns ds G12.out.rdm G12.out.rdd W12.out.rdm W12.out.rdd hwq).mono ?_
   rintro e w13 ⟨rfl, hb13⟩
   clear p0 p1 p2 p3 p4 p5 p6 p7 p8 p9 p10 p11 p12 q0 q1 q2 q3 q4 q5 q6 q7 q8 q9 q10 q11 q12
   have B13 := hidden (Below.andThen B12.out hb13)
   have BR13 := hidden (BR12.out.below hb13 (by omega))
   have W13 := hidden (W12.out.below hb13)
   have WB13 := hidden (WB12.out.below hb13 (by omega))
   have G13 := hidden (G12.out.below hb13)
   have GB13 := hidden (GB12.out.below hb13 (by omega))
   have z13 := hb13.size
   clear B12 BR12 W12 WB12 G12 GB12 hb13
   obtain ⟨p0, p1, p2, p3, p4, p5, p6, p7, p8, p9, p10, p11, p12⟩ := GB13.out.cells13
   go_wp2_with fail
   refine (markArr_in _ w6.heap.size w7.heap.size y _ _ _ _ _ _ ns ds G13.out (by omega) hwq).mono ?_
   rintro e w14 ⟨rfl, oi14, hb14⟩
   clear p0 p1 p2 p3 p4 p5 p6 p7 p8 p9 p10 p11 p12
   clear G13
   have B14 := hidden (Below.andBut B13.out hb14 (by omega))
   have BR14 := hidden (BR13.out.kept (hb14.block _ (by omega) (by omega)))
   have W14 := hidden (W13.out.but hb14 (by omega))
   have WB14 := hidden (WB13.out.kept (hb14.block _ (by omega) (by omega)))
   have GB14 := hidden (GB13.out.kept (hb14.block _ (by omega) (by omega)))
   have z14 := hb14.size
   clear B13 BR13 W13 WB13 GB13 hb14
   have G14 := hidden oi14
   clear oi14
   obtain ⟨p0, p1, p2, p3, p4, p5, p6, p7, p8, p9, p10, p11, p12⟩ := GB14.out.cells13
   go_wp2_with fail
   refine (heldArr_any _ 109 51 82 y _ _ _ _ _ _ ns ds G14.out.rdm G14.out.rdd hwq).mono ?_
   rintro e w15 ⟨rfl, hb15⟩
   clear p0 p1 p2 p3 p4 p5 p6 p7 p8 p9 p10 p11 p12
   have B15 := hidden (Below.andThen B14.out hb15)
   have BR15 := hidden (BR14.out.below hb15 (by omega))
   have W15 := hidden (W14.out.below hb15)
   have WB15 := hidden (WB14.out.below hb15 (by omega))
   have GB15 := hidden (GB14.out.below hb15 (by omega))
   have G15 := hidden (G14.out.below hb15)
   have z15 := hb15.size
   clear B14 BR14 W14 WB14 GB14 G14 hb15
   have hcm : (0 : Int) <= 1 + (cntMS ns : Int) + (cntWS ds : Int) := by omega
   generalize hCM : 1 + (cntMS ns : Int) + (cntWS ds : Int) = ck at hcm ⊢
   have HCM := hidden hCM
   clear hCM
   obtain ⟨l0, l1, l2, l3, l4, l5, l6, l7, l8, l9, l10, l11, l12⟩ := BR15.out.cells13
   go_wp2_with fail
   refine (toArr_any _ 140 78 81 x _ _ _ _ _ _ ms ds (h0.below B15.out) (h1.below B15.out) hwt').mono ?_
   rintro e w16 ⟨bm16, bd16, rfl, om16, od16, ya16, yb16, hb16⟩
   clear l0 l1 l2 l3 l4 l5 l6 l7 l8 l9 l10 l11 l12
   have B16 := hidden (Below.andThen B15.out hb16)
   have BR16 := hidden (BR15.out.below hb16 (by omega))
   have W16 := hidden (W15.out.below hb16)
   have WB16 := hidden (WB15.out.below hb16 (by omega))
   have GB16 := hidden (GB15.out.below hb16 (by omega))
   have G16 := hidden (G15.out.below hb16)
   have z16 := hb16.size
   clear B15 BR15 W15 WB15 GB15 G15 hb16
   have Em16 := hidden om16
   clear om16
   have Ed16 := hidden od16
   clear od16
   go_wp2_with fail
   refine (implFailDisk_any _ 109 51 82 x _ _ _ _ _ _ ms ds m Em16.out.rd Ed16.out.rd hwt2).mono ?_
   rintro e w17 ho17
   rw [HQ.out] at ho17
   obtain ⟨a17, d17, c17, b17, rfl, o17, hb17⟩ := ho17
   dsimp only at o17
   unfold arrC
   have B17 := hidden (Below.andThen B16.out hb17)
   have BR17 := hidden (BR16.out.below hb17 (by omega))
   have W17 := hidden (W16.out.below hb17)
   have WB17 := hidden (WB16.out.below hb17 (by omega))
   have GB17 := hidden (GB16.out.below hb17 (by omega))
   have G17 := hidden (G16.out.below hb17)
   have Em17 := hidden (Em16.out.below hb17)
   have Ed17 := hidden (Ed16.out.below hb17)
   have z17 := hb17.size
   clear B16 BR16 W16 WB16 GB16 G16 Em16 Ed16 hb17
   have H17 := hidden o17
   clear o17
   clear Em17
   clear Ed17
   have ba : Below w17.heap.size w17 (w17.alloc (.cells #[.int .i64 y.id, .int .i64 y.n, .int .i64 y.s, .slice a17 ns.length c17, .int .i64 y.lost, .int .i64 y.built, .int .i64 y.seq, .int .i64 y.tail, .int .i64 y.gen, .slice d17 ds.length b17, .int .i64 y.fuse, .bool y.down, .bool y.broken] 33)) := (Below.refl _ _).alloc (Nat.le_refl _) _
   have xb := Box.new w17 33 #[.int .i64 y.id, .int .i64 y.n, .int .i64 y.s, .slice a17 ns.length c17, .int .i64 y.lost, .int .i64 y.built, .int .i64 y.seq, .int .i64 y.tail, .int .i64 y.gen, .slice d17 ds.length b17, .int .i64 y.fuse, .bool y.down, .bool y.broken]
   have zx18 := xb.lt
   have B18 := hidden (Below.andThen B17.out ba)
   have BR18 := hidden (BR17.out.below ba (by omega))
   have W18 := hidden (W17.out.below ba)
   have WB18 := hidden (WB17.out.below ba (by omega))
   have GB18 := hidden (GB17.out.below ba (by omega))
   have G18 := hidden (G17.out.below ba)
   have H18 := hidden (H17.out.below ba)
   have z18 := ba.size
   clear B17 BR17 W17 WB17 GB17 G17 H17 ba
   have HB18 := hidden xb
   clear xb
   obtain ⟨p0, p1, p2, p3, p4, p5, p6, p7, p8, p9, p10, p11, p12⟩ := HB18.out.cells13
   obtain ⟨q0, q1, q2, q3, q4, q5, q6, q7, q8, q9, q10, q11, q12⟩ := WB18.out.cells13
   go_wp2_with fail
   generalize w17.alloc (.cells #[.int .i64 y.id, .int .i64 y.n, .int .i64 y.s, .slice a17 ns.length c17, .int .i64 y.lost, .int .i64 y.built, .int .i64 y.seq, .int .i64 y.tail, .int .i64 y.gen, .slice d17 ds.length b17, .int .i64 y.fuse, .bool y.down, .bool y.broken] 33) = w18 at B18 BR18 W18 WB18 GB18 G18 H18 HB18 z18 zx18 p0 p1 p2 p3 p4 p5 p6 p7 p8 p9 p10 p11 p12 q0 q1 q2 q3 q4 q5 q6 q7 q8 q9 q10 q11 q12 ⊢
   refine (eqArr_same _ 109 109 51 51 82 82 y _ _ _ _ _ _ _ _ _ _ _ _ ns ds H18.out.rdm H18.out.rdd W18.out.rdm W18.out.rdd hwq).mono ?_
   rintro e w19 ⟨rfl, hb19⟩
   clear p0 p1 p2 p3 p4 p5 p6 p7 p8 p9 p10 p11 p12 q0 q1 q2 q3 q4 q5 q6 q7 q8 q9 q10 q11 q12
   have B19 := hidden (Below.andThen B18.out hb19)
   have BR19 := hidden (BR18.out.below hb19 (by omega))
   have W19 := hidden (W18.out.below hb19)
   have WB19 := hidden (WB18.out.below hb19 (by omega))
   have GB19 := hidden (GB18.out.below hb19 (by omega))
   have G19 := hidden (G18.out.below hb19)
   have H19 := hidden (H18.out.below hb19)
   have HB19 := hidden (HB18.out.below hb19 (by omega))
   have z19 := hb19.size
   clear B18 BR18 W18 WB18 GB18 G18 H18 HB18 hb19
   clear H19
   clear HB19
   clear W19
   clear WB19
   obtain ⟨p0, p1, p2, p3, p4, p5, p6, p7, p8, p9, p10, p11, p12⟩ := GB19.out.cells13
   go_wp2_with fail
   refine (heldArr_any _ 109 51 82 y _ _ _ _ _ _ ns ds G19.out.rdm G19.out.rdd hwq).mono ?_
   rintro e w20 ⟨rfl, hb20⟩
   clear p0 p1 p2 p3 p4 p5 p6 p7 p8 p9 p10 p11 p12
   have B20 := hidden (Below.andThen B19.out hb20)
   have BR20 := hidden (BR19.out.below hb20 (by omega))
   have GB20 := hidden (GB19.out.below hb20 (by omega))
   have G20 := hidden (G19.out.below hb20)
   have z20 := hb20.size
   clear B19 BR19 GB19 G19 hb20
   rw [HCM.out]
   go_wp2
   go_ret
   exact ⟨rfl, B20.out⟩
 have hq := leftOf_neg (left := 1048576) (wt := wtArr ms ds) (by omega)
 go_wp2
 go_ret
 exact ⟨rfl, B1.out⟩

end Go.Proofs.YtechckninoilhaaGreat

namespace Go.Proofs.YtechckninoilhaaGreat
open Go.RowKit Go.ChangeShapes Go.WideShapes Go.ChangeAt Go.Joins Go.Deep

section
variable {H : Type} {enc : TypeId × Value -> H} {P : Program} {w : World} {held : Bool}

theorem rdInts_of {t q : TypeId} {fuel : Nat} {v : Value} {x : DataW H × List MemPlace} (ht : P.underlying t = some (.slice q)) (hq : P.underlying q = some (.int .i64)) (cq : P.cellsOf q = 1)
 (h : DataW.trod enc P w 0 (fun _ => true) held fuel t [v] = some x) : ∃ zs, tIntS.Rd w [v] zs := by
 rcases open_ints ht hq cq h with ⟨hcs, _⟩ | ⟨a, len, cap, zs, hcs, _, hl, hm, hz, _, hcell, hwz⟩
 . simp at hcs
   subst hcs
   exact ⟨[], ints_rd_of (.inl rfl) (Nat.le_refl _) (by simp) (fun _ => rfl)⟩
 simp at hcs
 subst hcs
 have hr : IsRow .i64 w (some a) len cap zs := .inr ⟨_, rfl, hl, hm, by simpa using hz, hcell, hwz⟩
 obtain ⟨h1, h2, _, _⟩ := hr.reads
 refine ⟨zs.take len, ?_⟩
 have := ints_rd_of (E := 3) (cap := cap) h1 (by omega) (by unfold maxLen at hm; omega) (by simp)
 rw [h2] at this
 exact this

theorem rd_row {t : Ty} {E : TypeId} {a : Addr} {len cap : Nat} (hl : len <= cap) (hm : cap <= 9223372036854775807) (cs : Nat -> List Value) (hn : 0 < t.n) (hcl : ∀ i, i < len -> (cs i).length = t.n)
 (hc : ∀ i, i < len -> ∀ j, j < t.n -> w.cell? (a.add (i * t.n + j)) = (cs i)[j]?) (hx : ∀ i, i < len -> ∃ x, t.Rd w (cs i) x) : ∃ d, (rowTy t E).Rd w [.slice (some a) len cap] d := by
 have each : ∀ i, i < len -> ∃ y : t.D × List Nat, t.rd w (cs i) y.1 y.2 := by
  intro i hi
  obtain ⟨x, fp, h⟩ := hx i hi
  exact ⟨(x, fp), h⟩
 by_cases h0 : len = 0
 . subst h0
   exact ⟨[], [], some a, cap, rfl, by simp, hm, .inl ⟨rfl, rfl, by simp⟩⟩
 have hne : Nonempty (t.D × List Nat) := by
  obtain ⟨y, _⟩ := each 0 (by omega)
  exact ⟨y⟩
 have hch : ∃ f : Nat -> t.D × List Nat, ∀ i, i < len -> t.rd w (cs i) (f i).1 (f i).2 := by
  refine ⟨fun i => if h : i < len then Classical.choose (each i h) else Classical.choice hne, fun i hi => ?_⟩
  simp only [dif_pos hi]
  exact Classical.choose_spec (each i hi)
 obtain ⟨f, hf⟩ := hch
 obtain ⟨b, off, spot⟩ := a
 have hc0 := hc 0 (by omega) 0 hn
 have hsome : ∃ v0, (cs 0)[0]? = some v0 := ⟨(cs 0)[0]'(by rw [hcl 0 (by omega)]; exact hn), List.getElem?_eq_getElem _⟩
 obtain ⟨v0, hv0⟩ := hsome
 rw [hv0] at hc0
 have hspot : spot = none := by simpa [Addr.add] using World.cell?_spot hc0
 subst hspot
 have ea : ∀ k, (⟨b, off, none⟩ : Addr).add k = ⟨b, off + k, none⟩ := by
  intro k
  unfold Addr.add
  split <;> simp_all
 rw [ea] at hc0
 have hblt : b < w.heap.size := World.block_lt_of_cell? w _ hc0
 refine ⟨(List.range len).map fun i => (f i).1, b :: ((List.range len).map fun i => (f i).2).flatten, _, cap, by simp, by simpa using hl, hm, .inr ⟨b, off, (List.range len).map fun i => (f i).2, rfl, hblt, rfl, by simp, fun i x hxi => ?_⟩⟩
 have hi : i < len := by
  have := (List.getElem?_eq_some_iff.1 hxi).1
  simpa using this
 rw [List.getElem?_map, List.getElem?_range hi] at hxi
 simp at hxi
 subst hxi
 refine ⟨(f i).2, cs i, by rw [List.getElem?_map, List.getElem?_range hi]; rfl, hf i hi, fun j hj => ?_⟩
 rw [← ea]
 exact hc i hi j hj

theorem rdIntSS_of {t e q : TypeId} {fuel : Nat} {v : Value} {x : DataW H × List MemPlace} (ht : P.underlying t = some (.slice e)) (he : P.underlying e = some (.slice q)) (hq : P.underlying q = some (.int .i64)) (ce : P.cellsOf e = 1) (cq : P.cellsOf q = 1)
 (h : DataW.trod enc P w 0 (fun _ => true) held fuel t [v] = some x) : ∃ d, tIntSS.Rd w [v] d := by
 rcases open_slice1 ht ce h with ⟨hcs, _⟩ | ⟨a, len, cap, m, n, V, D, Pl, hcs, _, hl, hm, hmm, _, hx⟩
 . simp at hcs
   subst hcs
   exact ⟨[], [], none, 0, rfl, by simp, by simp, .inl ⟨rfl, rfl, fun _ => rfl⟩⟩
 simp at hcs
 subst hcs
 simp only [if_true] at hmm
 refine rd_row hl (by unfold maxLen at hm; omega) (fun i => [V i]) (by decide) (fun _ _ => rfl) (fun i hi j hj => ?_) (fun i hi => rdInts_of he hq cq (hx i (by omega)).2)
 have hj0 : j = 0 := by have : j < 1 := hj; omega
 subst hj0
 have := (hx i (by omega)).1
 show w.cell? (a.add (i * 1 + 0)) = some (V i)
 rw [Nat.mul_one, Nat.add_zero]
 exact this

theorem rdWrS_of {t e q : TypeId} {f0 f1 : Field} {E : TypeId} {fuel : Nat} {v : Value} {x : DataW H × List MemPlace} (ht : P.underlying t = some (.slice e)) (he : P.underlying e = some (.struct #[f0, f1])) (ce : P.cellsOf e = 2) (o0 : f0.offset = 0) (o1 : f1.offset = 1) (c0 : P.cellsOf f0.type = 1) (c1 : P.cellsOf f1.type = 1)
 (hi0 : P.underlying f0.type = some (.int .i64)) (hi1 : P.underlying f1.type = some (.slice q)) (hq : P.underlying q = some (.int .i64)) (cq : P.cellsOf q = 1)
 (h : DataW.trod enc P w 0 (fun _ => true) held fuel t [v] = some x) : ∃ d, (tWrS E).Rd w [v] d := by
 rcases open_slice_pairs ht he ce o0 o1 c0 c1 h with ⟨hcs, _⟩ | ⟨a, len, cap, m, n, V0, V1, D0, D1, P0, P1, hcs, _, hl, hm, hmm, _, hx⟩
 . simp at hcs
   subst hcs
   exact ⟨[], [], none, 0, rfl, by simp, by simp, .inl ⟨rfl, rfl, fun _ => rfl⟩⟩
 simp at hcs
 subst hcs
 simp only [if_true] at hmm
 refine rd_row hl (by unfold maxLen at hm; omega) (fun i => [V0 i, V1 i]) (by decide) (fun _ _ => rfl) (fun i hi j hj => ?_) (fun i hi => ?_)
 . have hj2 : j < 2 := hj
   obtain ⟨h0, h1, _⟩ := hx i (by omega)
   match j, hj2 with
   | 0, _ => exact h0
   | 1, _ => exact h1
 obtain ⟨_, _, h2, h3⟩ := hx i (by omega)
 obtain ⟨y, hy, _, _⟩ := DataW.trod_int hi0 h2
 obtain ⟨zs, hzs⟩ := rdInts_of hi1 hq cq h3
 simp at hy
 exact ⟨(y, zs), by rw [hy]; exact pair_rd_of (t := intTy) (vs := [_]) ⟨[], rfl, rfl⟩ hzs⟩

end
end Go.Proofs.YtechckninoilhaaGreat

namespace Go.Proofs.YtechckninoilhaaGreat
open Go.RowKit Go.ChangeShapes Go.WideShapes Go.ChangeAt Go.Joins Go.Deep

section
variable {H : Type} {enc : TypeId × Value -> H} {w : World} {held : Bool}

theorem rdRow_of {P : Program} {t e E : TypeId} {u : Ty} {fuel : Nat} {v : Value} {x : DataW H × List MemPlace} (ht : P.underlying t = some (.slice e)) (ce : P.cellsOf e = u.n) (hn : 0 < u.n)
 (each : ∀ (n : Nat) (cs : List Value) (y : DataW H × List MemPlace), cs.length = u.n -> DataW.trod enc P w 0 (fun _ => true) held n e cs = some y -> ∃ d, u.Rd w cs d)
 (h : DataW.trod enc P w 0 (fun _ => true) held fuel t [v] = some x) : ∃ d, (rowTy u E).Rd w [v] d := by
 rcases open_slice ht h with ⟨hcs, _⟩ | ⟨a, len, cap, m, n, D, Pl, hcs, _, hl, hm, hmm, _, hx⟩
 . simp at hcs
   subst hcs
   exact ⟨[], [], none, 0, rfl, by simp, by simp, .inl ⟨rfl, rfl, fun _ => rfl⟩⟩
 simp at hcs
 subst hcs
 simp only [if_true] at hmm
 have one : ∀ i, i < len -> ∃ cs : List Value, cs.length = u.n /\ (∀ j, j < u.n -> w.cell? (a.add (i * u.n + j)) = cs[j]?) /\ ∃ d, u.Rd w cs d := by
  intro i hi
  obtain ⟨cs', h1, h2⟩ := hx i (by omega)
  rw [ce] at h1
  obtain ⟨_, hlen, hcell⟩ := World.cells?_some h1
  refine ⟨cs', hlen, fun j hj => ?_, each n cs' _ hlen h2⟩
  have := hcell j hj
  rw [add_add] at this
  exact this
 obtain ⟨q, hq⟩ := choose_lt one
 exact rd_row hl (by unfold maxLen at hm; omega) q hn (fun i hi => (hq i hi).1) (fun i hi => (hq i hi).2.1) (fun i hi => (hq i hi).2.2)

theorem rdMemS_of {fuel : Nat} {v : Value} {x : DataW H × List MemPlace} (h : DataW.trod enc Tryz.prog w 0 (fun _ => true) held fuel 24 [v] = some x) : ∃ d, (tMemS 140 78).Rd w [v] d := by
 refine rdRow_of (e := 78) Tryz.underlying24 (by kernel_rfl) (by decide) (fun n cs y hl hy => ?_) h
 match cs, hl with
 | [v0, v1, v2, v3], _ =>
  obtain ⟨xs, k, _, _, _, hxl, hf⟩ := DataW.trod_struct Tryz.underlying78 hy
  have c1 : Tryz.prog.cellsOf 47 = 1 := by kernel_rfl
  have c2 : Tryz.prog.cellsOf 76 = 1 := by kernel_rfl
  have c3 : Tryz.prog.cellsOf 4 = 1 := by kernel_rfl
  have c4 : Tryz.prog.cellsOf 49 = 1 := by kernel_rfl
  match xs, hxl with
  | [y0, y1, y2, y3], _ =>
   have g0 := hf 0 _ rfl
   have g1 := hf 1 _ rfl
   have g2 := hf 2 _ rfl
   have g3 := hf 3 _ rfl
   simp [c1] at g0
   simp [c2] at g1
   simp [c3] at g2
   simp [c4] at g3
   obtain ⟨ss, r0⟩ := rdIntSS_of Tryz.underlying47 Tryz.underlying49 Tryz.underlying3 (by kernel_rfl) (by kernel_rfl) g0
   obtain ⟨ws, r1⟩ := rdWrS_of (E := 140) Tryz.underlying76 Tryz.underlying140 (by kernel_rfl) rfl rfl (by kernel_rfl) (by kernel_rfl) Tryz.underlying3 Tryz.underlying49 Tryz.underlying3 (by kernel_rfl) g1
   obtain ⟨f, hfb, _⟩ := DataW.trod_bool Tryz.underlying4 g2
   obtain ⟨bs, r3⟩ := rdInts_of Tryz.underlying49 Tryz.underlying3 (by kernel_rfl) g3
   simp at hfb
   subst hfb
   exact ⟨(ss, ws, f, bs), pair_rd_of (vs := [v0]) r0 (pair_rd_of (vs := [v1]) r1 (pair_rd_of (t := boolTy) (vs := [.bool f]) ⟨[], rfl, rfl⟩ r3))⟩

theorem array13 {cs : Array Value} (h : cs.size = 13) : ∃ c0 c1 c2 c3 c4 c5 c6 c7 c8 c9 c10 c11 c12, cs = #[c0, c1, c2, c3, c4, c5, c6, c7, c8, c9, c10, c11, c12] := by
 obtain ⟨l⟩ := cs
 match l, h with
 | [c0, c1, c2, c3, c4, c5, c6, c7, c8, c9, c10, c11, c12], _ => exact ⟨c0, c1, c2, c3, c4, c5, c6, c7, c8, c9, c10, c11, c12, rfl⟩

theorem open_arr {r : Reach} {b0 : Nat} {v : Value} {d : DataW H} {p : List MemPlace} (hv : Value.okWide Tryz.prog w r b0 27 v) (h : DataW.Trod enc Tryz.prog w 0 (fun _ => true) held 27 v d p) :
 ∃ (x : ArrN) (am ad : Option Addr) (cm cd : Nat) (ms : List MemD) (ds : List (Int × List Int)), v = .agg #[.int .i64 x.id, .int .i64 x.n, .int .i64 x.s, .slice am ms.length cm, .int .i64 x.lost, .int .i64 x.built, .int .i64 x.seq, .int .i64 x.tail, .int .i64 x.gen, .slice ad ds.length cd, .int .i64 x.fuse, .bool x.down, .bool x.broken] /\ (tMemS 140 78).Rd w [.slice am ms.length cm] ms /\ (tWrS 81).Rd w [.slice ad ds.length cd] ds := by
 obtain ⟨cs, rfl, hsz⟩ := okWide_struct Tryz.underlying27 hv
 obtain ⟨c0, c1, c2, c3, c4, c5, c6, c7, c8, c9, c10, c11, c12, rfl⟩ := array13 (hsz.trans (by kernel_rfl))
 obtain ⟨fuel, hf⟩ := h
 obtain ⟨xs, n, _, _, _, hxl, hx⟩ := DataW.trod_struct Tryz.underlying27 hf
 have k3 : Tryz.prog.cellsOf 3 = 1 := by kernel_rfl
 have k4 : Tryz.prog.cellsOf 4 = 1 := by kernel_rfl
 have kG : Tryz.prog.cellsOf 23 = 2 := by kernel_rfl
 have kM : Tryz.prog.cellsOf 24 = 1 := by kernel_rfl
 have kE : Tryz.prog.cellsOf 25 = 1 := by kernel_rfl
 match xs, hxl with
 | [y0, y1, y2, y3, y4, y5, y6, y7, y8, y9, y10, y11], _ =>
  have g0 := hx 0 _ rfl
  have g1 := hx 1 _ rfl
  have g2 := hx 2 _ rfl
  have g3 := hx 3 _ rfl
  have g4 := hx 4 _ rfl
  have g5 := hx 5 _ rfl
  have g6 := hx 6 _ rfl
  have g7 := hx 7 _ rfl
  have g8 := hx 8 _ rfl
  have g9 := hx 9 _ rfl
  have g10 := hx 10 _ rfl
  have g11 := hx 11 _ rfl
  simp [Value.cells, k3] at g0
  simp [Value.cells, kG] at g1
  simp [Value.cells, kM] at g2
  simp [Value.cells, k3] at g3
  simp [Value.cells, k3] at g4
  simp [Value.cells, k3] at g5
  simp [Value.cells, k3] at g6
  simp [Value.cells, k3] at g7
  simp [Value.cells, kE] at g8
  simp [Value.cells, k3] at g9
  simp [Value.cells, k4] at g10
  simp [Value.cells, k4] at g11
  obtain ⟨n0, e0, _, _⟩ := DataW.trod_int Tryz.underlying3 g0
  simp at e0
  subst e0
  obtain ⟨zs, m, _, _, _, hzl, hz⟩ := DataW.trod_struct Tryz.underlying23 g1
  match zs, hzl with
  | [z0, z1], _ =>
  have q0 := hz 0 _ rfl
  have q1 := hz 1 _ rfl
  simp [k3] at q0 q1
  obtain ⟨nn, en, _, _⟩ := DataW.trod_int Tryz.underlying3 q0
  obtain ⟨ns, es, _, _⟩ := DataW.trod_int Tryz.underlying3 q1
  simp at en es
  subst en es
  obtain ⟨ms, r2⟩ := rdMemS_of g2
  obtain ⟨am, cm, rfl⟩ := row_shape r2
  obtain ⟨n3, e3, _, _⟩ := DataW.trod_int Tryz.underlying3 g3
  simp at e3
  subst e3
  obtain ⟨n4, e4, _, _⟩ := DataW.trod_int Tryz.underlying3 g4
  simp at e4
  subst e4
  obtain ⟨n5, e5, _, _⟩ := DataW.trod_int Tryz.underlying3 g5
  simp at e5
  subst e5
  obtain ⟨n6, e6, _, _⟩ := DataW.trod_int Tryz.underlying3 g6
  simp at e6
  subst e6
  obtain ⟨n7, e7, _, _⟩ := DataW.trod_int Tryz.underlying3 g7
  simp at e7
  subst e7
  obtain ⟨ds, r8⟩ := rdWrS_of (E := 81) Tryz.underlying25 Tryz.underlying81 (by kernel_rfl) rfl rfl (by kernel_rfl) (by kernel_rfl) Tryz.underlying3 Tryz.underlying49 Tryz.underlying3 (by kernel_rfl) g8
  obtain ⟨ad, cd, rfl⟩ := row_shape r8
  obtain ⟨n9, e9, _, _⟩ := DataW.trod_int Tryz.underlying3 g9
  simp at e9
  subst e9
  obtain ⟨n10, e10, _⟩ := DataW.trod_bool Tryz.underlying4 g10
  simp at e10
  subst e10
  obtain ⟨n11, e11, _⟩ := DataW.trod_bool Tryz.underlying4 g11
  simp at e11
  subst e11
  exact ⟨⟨n0, nn, ns, n3, n4, n5, n6, n7, n9, n10, n11⟩, am, ad, cm, cd, ms, ds, rfl, r2, r8⟩

end
end Go.Proofs.YtechckninoilhaaGreat

namespace Go.Proofs.YtechckninoilhaaGreat.fnExactFailDisk
open Go.ChangeShapes Go.WideShapes Go.ChangeAt Go.RowKit Go.Joins
open Go.ChangeMaps (open_string shut_string)
set_option linter.unusedVariables false

theorem own : ownKnob Tryz.prog.godebug = none := by kernel_rfl
theorem laidOut : laidOutB Tryz.prog = true := by kernel_rfl

theorem lifted (os : Os) (started : os.Started) (H : Type) (enc : TypeId × Value -> H) :
 ReturnsInHanded {} Tryz.checked os 3 .any (Rows.fnExactFailDiskSpec.pre6 enc Tryz.prog Tryz.f3 Rows.fnExactFailDiskRow.domain false) (Rows.fnExactFailDiskSpec.post enc Tryz.prog Tryz.f3 false true false false) := by
 refine returnsInHanded_of_change (C := Tryz.checked) own started (by kernel_rfl) Tryz.func3
  (ChangeSpec.witness6 (enc := enc) (C := Tryz.checked) false ⟨#[], #[.agg #[.int .i64 0, .int .i64 0, .int .i64 0, .slice none 0 0, .int .i64 0, .int .i64 0, .int .i64 0, .int .i64 0, .int .i64 0, .slice none 0 0, .int .i64 0, .bool false, .bool false], .int .i64 0], []⟩ 8 (by kernel_rfl) (by kernel_rfl) (by kernel_rfl) (by kernel_rfl)) ?_
 intro W base args ds gs before hval0 hW hcnd _
 have hval : ∀ (j : Nat) t v, Tryz.f3.params[j]? = some t -> args[j]? = some v -> Value.okWide Tryz.prog W .any base t v := hval0
 have hW' := hW
 obtain ⟨p, q, hA0, hV, rfl, hfz, hnd⟩ := hW
 have hA : DataW.TrodAll enc Tryz.prog W 0 (fun _ => true) true Tryz.f3.params.toList args.toList ds p := hA0
 rw [Tryz.params3] at hA hval
 obtain ⟨v0, vs0, d0, ds0, p0, q0, hargs0, rfl, rfl, h0, r0⟩ := trodAll_cons hA
 obtain ⟨v1, vs1, d1, ds1, p1, q1, hargs1, rfl, rfl, h1, r1⟩ := trodAll_cons r0
 obtain ⟨rfl, rfl, rfl⟩ := trodAll_nil r1
 obtain rfl : args = #[v0, v1] := by cases args; simp_all
 obtain ⟨rfl, rfl⟩ := trodVars_none hV
 have k0 := h0
 have lt0 : ∀ x ∈ p0, x.block < W.heap.size := by obtain ⟨m, hm⟩ := k0; exact DataW.trod_lt m _ _ _ hm
 obtain ⟨x0, am0, ad0, cm0, cd0, ms0, ds0, rfl, g0m, g0d⟩ := open_arr (hval 0 27 v0 rfl rfl) h0
 have k1 := h1
 have lt1 : ∀ x ∈ p1, x.block < W.heap.size := by obtain ⟨m, hm⟩ := k1; exact DataW.trod_lt m _ _ _ hm
 obtain ⟨x1, hv1, _, _, wf1⟩ := open_int Tryz.underlying3 (hval 1 3 v1 rfl rfl) h1
 subst hv1
 clear hA0 hval0
 refine (fnExactFailDisk_walk x0 am0 ad0 ms0.length cm0 ds0.length cd0 ms0 ds0 x1 W g0m g0d).mono fun e W' ⟨he, bel⟩ => ?_
 subst he
 exact ⟨_, rfl, _, _, _, [], _, [], hW', trodAll_mk1 (shut_bool Tryz.underlying4 _), (trodAll_cons_mk (Below.trod laidOut (by kernel_rfl) (of_decide_eq_true (by kernel_rfl)) k0 bel lt0) (trodAll_cons_mk (Below.trod laidOut (by kernel_rfl) (of_decide_eq_true (by kernel_rfl)) k1 bel lt1) trodAll_mk0)), rfl, bel.frame _, fun h => by cases h⟩

theorem over : Rows.fnExactFailDiskRow.holds Tryz.pinned (OpenSpec.ofChange Rows.fnExactFailDiskSpec) :=
 OpenClaim.holds_of_wide 3 Tryz.f3 rfl rfl rfl rfl rfl rfl rfl ⟨rfl, rfl, rfl, rfl, rfl⟩ rfl rfl rfl rfl rfl (by kernel_rfl) Tryz.func3 (by kernel_rfl)
  (of_decide_eq_true (by kernel_rfl)) (by unfold Func.isWrapper; first | (rw [if_pos (by decide +kernel)]; kernel_rfl) | (rw [if_neg (by decide +kernel)]; exact ⟨rfl, rfl⟩))
  (fun os started H enc _ => lifted os started H enc)
end Go.Proofs.YtechckninoilhaaGreat.fnExactFailDisk

namespace Go.Proofs.YtechckninoilhaaGreat
theorem fnExactFailDisk_holds : Rows.FnExactFailDiskSaid := fnExactFailDisk.over
#print axioms fnExactFailDisk_holds
end Go.Proofs.YtechckninoilhaaGreat

