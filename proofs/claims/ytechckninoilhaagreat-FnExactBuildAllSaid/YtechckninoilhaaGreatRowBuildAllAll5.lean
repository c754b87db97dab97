/-
 The walks of both ReadSec (the program's and the specification's): what a sector reads as, in memory of its own. Condition: the disk weighs at most 2097152.
-/
import Derived.Test.YtechckninoilhaaGreatRowBuildAllAll8
import Derived.Test.YtechckninoilhaaGreatRowBuildAllAll11
import Derived.Test.YtechckninoilhaaGreatHeld
import Derived.Test.YtechckninoilhaaGreatOrder
import Derived.Test.YtechckninoilhaaGreatRowBuildAllAll10
import Derived.Test.YtechckninoilhaaGreatRowBuildAllAll6
import Derived.Test.YtechckninoilhaaGreatRowBuildAllAll7
import Derived.Test.YtechckninoilhaaGreatWalkArrOk3
import Derived.Test.YtechckninoilhaaGreatRowBuildAllAll12
import Derived.Test.YtechckninoilhaaGreatRowBuildAllAll13
import Derived.BigQuiet
import Derived.WalkSmall
import Derived.Handy

set_option maxRecDepth 100000
set_option maxHeartbeats 8000000
set_option linter.unusedSimpArgs false

namespace Go.Proofs.YtechckninoilhaaGreat
open Go.RowKit

theorem burn_any (w : World) (B : Nat) (x : ArrN) (ms : List MemD) (ds : List (Int × List Int)) (fm fd : List Nat) (h : ArrAt w B x ms ds fm fd) (hf : x.fuse <= 1000) (hdn : x.down = false) :
 Calls Tryz.prog 146 #[.pointer (some ⟨B, 0, none⟩)] w fun e w' => EndOf (opX x) e /\ ArrAt w' B (opX x) ms ds fm fd /\ Moved B fm w fm w' := by
 obtain ⟨bm, bd, cm, cd, X, hm, hd, hr, r1, r2⟩ := h
 unfold arrC at X
 obtain ⟨k0, k1, k2, k3, k4, k5, k6, k7, k8, k9, k10, k11, k12⟩ := X.cells13
 have fz := X.frozen
 by_cases h0 : x.fuse = 0
 . have HX : Hid (opX x = {x with down := true, fuse := -1}) := by unfold Hid opX; rw [if_neg (by simp [hdn]), if_pos h0]
   have Y := (X.set 11 (.bool true)).set 10 (.int .i64 (-1))
   have M := hidden ((hm.setCell (g := B) (j := 11) r1 (.bool true)).setCell (g := B) (j := 10) r1 (.int .i64 (-1)))
   have D := hidden ((hd.setCell (g := B) (j := 11) r2 (.bool true)).setCell (g := B) (j := 10) r2 (.int .i64 (-1)))
   have MV := hidden ((Moved.set (B := B) (j := 11) (fm := fm) (w := w) (.bool true)).trans (Moved.set (B := B) (j := 10) (.int .i64 (-1))))
   have YH := hidden Y
   have HE : Hid (EndOf (opX x) (.panicked goneC)) := EndOf.gone (by rw [HX.out])
   rw [h0] at k10
   clear Y X hm hd hdn h0
   go_enter Tryz.func146, Tryz.ntmps146
   go_wp2
   refine ⟨rfl, HE.out, ?_, MV.out⟩
   rw [HX.out]; exact ⟨bm, bd, cm, cd, YH.out, M.out, D.out, hr, r1, r2⟩
 have e0 : (x.fuse == 0) = false := by simpa using h0
 by_cases h1 : 0 < x.fuse
 . have hw : IntKind.i64.wrap (x.fuse - 1) = x.fuse - 1 := IntWalk.i64_in _ (by omega)
   have HX : Hid (opX x = {x with fuse := x.fuse - 1}) := by unfold Hid opX; rw [if_neg (by simp [hdn]), if_neg h0, if_pos h1]
   have HE : Hid (EndOf (opX x) (.returned (.tuple #[]))) := EndOf.fine (by rw [HX.out]; exact hdn)
   have YH := hidden (X.set 10 (.int .i64 (x.fuse - 1)))
   have M := hidden (hm.setCell (g := B) (j := 10) r1 (.int .i64 (x.fuse - 1)))
   have D := hidden (hd.setCell (g := B) (j := 10) r2 (.int .i64 (x.fuse - 1)))
   have MV := hidden (Moved.set (B := B) (j := 10) (fm := fm) (w := w) (.int .i64 (x.fuse - 1)))
   clear X hm hd hdn h0
   go_enter Tryz.func146, Tryz.ntmps146
   go_wp2
   refine bodyPost_end (v := .tuple #[]) (results_none rfl _ _ _) rfl ?_
   exact ⟨HE.out, by rw [HX.out]; exact ⟨bm, bd, cm, cd, YH.out, M.out, D.out, hr, r1, r2⟩, MV.out⟩
 have HX : Hid (opX x = x) := by unfold Hid opX; rw [if_neg (by simp [hdn]), if_neg h0, if_neg h1]
 have HE : Hid (EndOf (opX x) (.returned (.tuple #[]))) := EndOf.fine (by rw [HX.out]; exact hdn)
 have YH := hidden X
 clear hdn h0 X
 go_enter Tryz.func146, Tryz.ntmps146
 go_wp2
 refine bodyPost_end (v := .tuple #[]) (results_none rfl _ _ _) rfl ?_
 exact ⟨HE.out, by rw [HX.out]; exact ⟨bm, bd, cm, cd, YH.out, hm, hd, hr, r1, r2⟩, Moved.refl _ _ _⟩

theorem perform_any (w : World) (B : Nat) (x : ArrN) (ms : List MemD) (ds : List (Int × List Int)) (fm fd : List Nat) (h : ArrAt w B x ms ds fm fd) (hf : x.fuse <= 1000) (hdn : x.down = false) (hM : MsOk ms)
 (bo : Option Addr) (co : Nat) (ops : List DOp) (fo : List Nat) (ho : (tOps B).Mine w [.slice bo ops.length co] ops fo) (hdis : ∀ b ∈ fo, b ≠ B /\ b ∉ fm) (hop : ∀ o ∈ ops, o.1 < ms.length /\ flagAt ms o.1 = false) :
 Calls Tryz.prog 116 #[.pointer (some ⟨B, 0, none⟩), .slice bo ops.length co] w (Did w B fm ds fd (runS (x, ms) ops)) := by
 have HK := hidden (fun j : Nat => runS_keeps (q := (x, ms)) hM hf (ops.take j))
 have HF := hidden (fun j k : Nat => runS_flag (x, ms) (ops.take j) k)
 have H0 := hidden h
 have hlo := ho.lt
 have hmx := (row_length ho.rd).2
 have HO := hidden ho
 have HD := hidden hdis
 have HP := hidden hop
 have HN : Hid (x.down = false) := hdn
 have zz := h.lt
 have zm := h.ltm.1
 clear h ho hdis hop hdn
 have hS : ∀ wr fm1, Moved B fm w fm1 wr -> Turned (B :: fm) w wr /\ ∀ b ∈ fm1, b ∈ fm ∨ w.heap.size <= b := fun _ _ h => h
 go_enter Tryz.func116, Tryz.ntmps116
 go_wp2
 go_loopw [8] (fun i wr => ∃ (j : Nat) (fm1 : List Nat), j <= ops.length /\ i = .int .i64 j /\ (runS (x, ms) (ops.take j)).1.down = false /\ ArrAt wr B (runS (x, ms) (ops.take j)).1 (runS (x, ms) (ops.take j)).2 ds fm1 fd /\ Moved B fm w fm1 wr) (fun i _ => ops.length - (intOf i).toNat)
 case atStart => exact ⟨0, fm, Nat.zero_le _, rfl, HN.out, H0.out, Moved.refl _ _ _⟩
 obtain ⟨j, fm1, hj, rfl, hdj, hA, hMv⟩ := hrel
 obtain ⟨hMj, hsj, hlj⟩ := HK.out j
 have hfj := hsj.2.2.2.2.2.2.2.2.2.1
 by_cases hjn : j < ops.length
 . have i2 : (j : Int) < (ops.length : Int) := by omega
   have i1 : (0 : Int) <= (j : Int) := by omega
   have hoj : ops[j]? = some (ops[j]'hjn) := List.getElem?_eq_getElem hjn
   obtain ⟨p1, p2⟩ := HP.out _ (List.mem_of_getElem? hoj)
   generalize ops[j]'hjn = o at hoj p1 p2
   have HS := hidden (runS_next (q := (x, ms)) hoj)
   have HE := hidden (fun h => runS_end (q := (x, ms)) (ops := ops) (j := j + 1) h)
   have hfl := (HF.out j o.1).trans p2
   generalize hst : runS (x, ms) (ops.take j) = st at hA hMj hsj hlj hfj HS hdj hfl
   obtain ⟨y, ns⟩ := st
   dsimp only at hA hMj hsj hlj hfj hdj hfl
   clear hst
   obtain ⟨g, F, cp, fp, rfl, hg, hc, hen, hfp, hrun⟩ := dop_at HO.out hoj
   have hgf : g ∈ fo := by
    obtain ⟨hh, _⟩ := HO.out
    rcases hh with ⟨h1, _⟩ | ⟨b, cap', cur, fps, h1, _, _, _, _, h6, _⟩
    . simp at h1
    simp at h1; rw [h6, h1.1]; exact List.mem_cons_self
   have hnf : ∀ b ∈ fo, b ∉ (B :: fm) := fun b hb hm => by
    rcases List.mem_cons.1 hm with e | hm
    . exact (HD.out b hb).1 e
    exact (HD.out b hb).2 hm
   have hcr : wr.cell? ⟨g, j, none⟩ = some (.func (Fn.func F) #[] cp) := (World.cell?_of_block (w := w) (hMv.1.block g hg (hnf g hgf))).trans hc
   have MV := hidden hMv
   have HA := hidden hA
   have HR := hidden hrun
   have HFP := hidden hfp
   have HNF := hidden hnf
   clear hA hMv hrun hfp hnf hc
   go_wp2_with fail
   refine (burn_any _ B y ns ds fm1 fd HA.out hfj hdj).mono ?_
   rintro e w1 ⟨he, hA1, hMv1⟩
   cases hob : opB y
   . have hdd := opX_no hob
     unfold EndOf at he
     rw [if_pos hdd] at he
     subst he
     have hget : ns[o.1]? = some (ns.getD o.1 memZ) := by rw [List.getD_eq_getElem?_getD, List.getElem?_eq_getElem (by omega)]; rfl
     have HV : Hid (runS (x, ms) ops = (opX y, ns)) := by
      have h9 : runS (x, ms) (ops.take (j + 1)) = (opX y, ns) := HS.out.trans (doS_no hget hfl hob)
      exact (HE.out (by rw [h9]; exact hdd)).trans h9
     have HD2 : Hid (Did w B fm ds fd (runS (x, ms) ops) (.panicked goneC) w1) := by
      unfold Hid Did
      rw [HV.out]
      exact ⟨EndOf.gone hdd, fm1, hA1, MV.out.trans hMv1⟩
     clear hA1 hMv1
     go_wp2
     exact ⟨rfl, HD2.out⟩
   have hdd := opX_yes hob
   unfold EndOf at he
   rw [if_neg (by simp [hdd])] at he
   subst he
   have hget : ns[o.1]? = some (ns.getD o.1 memZ) := by rw [List.getD_eq_getElem?_getD, List.getElem?_eq_getElem (by omega)]; rfl
   have HV : Hid (runS (x, ms) (ops.take (j + 1)) = (opX y, ns.set o.1 (opF o (opX y) (ns.getD o.1 memZ)))) := by
    refine HS.out.trans ((doS_yes hget hfl hob).trans ?_)
    rw [opF_opX]
   have MV1 := hidden (MV.out.trans hMv1)
   have hsz := MV1.out.size
   have R1 := HR.out w1 (fun b hb => MV1.out.1.block b (hlo b (HFP.out b hb)) (HNF.out b (HFP.out b hb))) hsz (opX y) ns ds fm1 fd hA1 hMj (fun b hb => ⟨(HD.out b (HFP.out b hb)).1, fun hm => by
    rcases MV.out.2 b hm with h1 | h1
    . exact (HD.out b (HFP.out b hb)).2 h1
    have := hlo b (HFP.out b hb); omega⟩) (by omega)
   have RH := hidden R1
   clear hA1 hMv1 R1
   have hcf : ∀ w : World, Sem.run Tryz.prog (callFunc F cp) w = .ok (.enter F cp) w := hen
   go_wp2_with fail
   refine RH.out.mono ?_
   rintro e w2 ⟨rfl, fm2, hA2, hMv2⟩
   have HB := hidden (MV1.out.trans hMv2)
   have HA2 := hidden hA2
   clear hA2 hMv2 hcr
   go_wp2
   go_roundw
   case rel => exact ⟨j + 1, fm2, by omega, by go_num, by rw [HV.out]; exact hdd, by rw [HV.out]; exact HA2.out, HB.out⟩
   case measure => simp [intOf]; omega
 have ej : j = ops.length := by omega
 have i2 : ¬ (j : Int) < (ops.length : Int) := by omega
 subst ej
 rw [List.take_length] at hA hdj
 have HD2 : Hid (Did w B fm ds fd (runS (x, ms) ops) (.returned (.tuple #[])) wr) := ⟨EndOf.fine hdj, fm1, hA, hMv⟩
 clear hA hMv
 go_wp2
 refine bodyPost_end (v := .tuple #[]) (results_none rfl _ _ _) rfl ?_
 exact HD2.out

theorem Tryz.infoOp : (Tryz.prog.info? 131).map (fun i => (i.zero, i.size, i.bytes)) = some (some .nilFunc, 1, 8) := by kernel_rfl

theorem opsOf_any (w : World) (B : Nat) (x : ArrN) (ms : List MemD) (ds : List (Int × List Int)) (fm fd : List Nat) (h : ArrAt w B x ms ds fm fd) (hl : ms.length <= 2097152) (K : Nat -> DOp) (F : FuncId) (cap : Array Value)
 (hen : ∀ m : Nat, Enters F (#[.int .i64 (m : Int)] ++ cap)) (hop : ∀ (m : Nat) (w' : World), m < ms.length -> Below w.heap.size w w' -> Calls Tryz.prog F (#[.int .i64 (m : Int)] ++ cap) w' fun e w'' => ∃ v, e = .returned v /\ (opTy B).Own w'' w'.heap.size w''.heap.size [v] (K m) /\ Below w'.heap.size w' w'') :
 Calls Tryz.prog 147 #[.pointer (some ⟨B, 0, none⟩), .func (Fn.func F) #[] cap] w fun e w' => ∃ bo co, e = .returned (.slice bo (opsL K ms ms.length).length co) /\ (tOps B).Own w' w.heap.size w'.heap.size [.slice bo (opsL K ms ms.length).length co] (opsL K ms ms.length) /\ Below w.heap.size w w' := by
 obtain ⟨i4, hi4, hz0, hz1, hz2⟩ := info_parts Tryz.infoOp
 obtain ⟨bm, bd, cm, cd, X, hmm, hdd, hr, r1, r2⟩ := h
 have zB := X.lt
 have k3 : w.cell? ⟨B, 3, none⟩ = some (.slice bm ms.length cm) := by
  unfold arrC at X
  exact X.cells13.2.2.2.1
 have hmx := (row_length hmm.rd).2
 have ML := hidden (lit0_mine (t := opTy B) (E := 131) w)
 have HB0 := hidden (new_below w (.cells #[] 131))
 have MM := hidden hmm
 have HOP := hidden hop
 have k3' : (w.alloc (.cells #[] 131)).cell? ⟨B, 3, none⟩ = some (.slice bm ms.length cm) := (HB0.out.cell (p := ⟨B, 3, none⟩) zB).trans k3
 clear hmm hdd X hop
 go_enter Tryz.func147, Tryz.ntmps147
 go_wp2
 go_loopw [5, 14] (fun v i wr => ∃ (j : Nat) (fp : List Nat), j <= ms.length /\ i = .int .i64 j /\ (tOps B).Mine wr [v] (opsL K ms j) fp /\ (∀ b ∈ fp, w.heap.size <= b) /\ Below w.heap.size w wr) (fun _ i _ => ms.length - (intOf i).toNat)
 case atStart => exact ⟨0, [w.heap.size], Nat.zero_le _, rfl, ML.out, by simp, HB0.out⟩
 obtain ⟨j, fp, hj, rfl, hm, hfp, hb⟩ := hrel
 have hs := hb.size
 by_cases hjn : j < ms.length
 . have i2 : (j : Int) < (ms.length : Int) := by omega
   have i1 : (0 : Int) <= (j : Int) := by omega
   obtain ⟨g, rfl⟩ := row_head MM.out (by omega)
   have hdj : ms[j]? = some (ms[j]'(by omega)) := List.getElem?_eq_getElem (by omega)
   generalize ms[j]'(by omega) = d at hdj
   obtain ⟨hgl, a0, a1, a3, c0, c1, c3, ss, cs, f, bs, rfl, q0, q1, q2, q3, _, _, _⟩ := disk_at MM.out hdj
   have p0 := (hb.cell (p := ⟨g, j * 4, none⟩) hgl).trans q0
   have p1 := (hb.cell (p := ⟨g, j * 4 + 1, none⟩) hgl).trans q1
   have p2 := (hb.cell (p := ⟨g, j * 4 + 2, none⟩) hgl).trans q2
   have p3 := (hb.cell (p := ⟨g, j * 4 + 3, none⟩) hgl).trans q3
   have hfl : flagAt ms j = f := by unfold flagAt; rw [getD_at hdj]
   have HL := hidden (opsL_succ K ms j)
   rw [hfl] at HL
   clear q0 q1 q2 q3 hdj hfl
   cases f
   . have HL2 : Hid (opsL K ms (j + 1) = opsL K ms j ++ [K j]) := HL.out
     have hkl := opsL_len K ms j
     have L1 : Hid ((opsL K ms j).length + 1 <= maxLen) := by unfold Hid maxLen; omega
     have L2 : Hid (((opsL K ms j).length + 1) * 8 <= 140737488355328) := by unfold Hid; omega
     have HM := hidden hm
     have HFP := hidden hfp
     have HB := hidden hb
     have hcf : ∀ w : World, Sem.run Tryz.prog (callFunc F (#[.int .i64 (j : Int)] ++ cap)) w = .ok (.enter F (#[.int .i64 (j : Int)] ++ cap)) w := hen j
     clear hm hfp hb HL hkl
     go_wp2_with fail
     have bA := Below.andThen HB.out (new_below wr (.cells #[.slice a0 ss.length c0, .slice a1 cs.length c1, .bool false, .slice a3 bs.length c3] 51))
     refine (HOP.out j _ hjn bA).mono ?_
     rintro e w1 ⟨v, rfl, ov, b1⟩
     obtain ⟨fpx, mx, rx⟩ := ov.mine
     obtain ⟨F1, cp1, hv, _⟩ := mx.1
     have hv' : v = .func (Fn.func F1) #[] cp1 := by simpa using hv
     subst hv'
     have bw1 := Below.andThen (new_below wr (.cells #[.slice a0 ss.length c0, .slice a1 cs.length c1, .bool false, .slice a3 bs.length c3] 51)) b1
     have bB := new_below w1 (.cells #[.func (Fn.func F1) #[] cp1] 131)
     have zA : (wr.alloc (.cells #[.slice a0 ss.length c0, .slice a1 cs.length c1, .bool false, .slice a3 bs.length c3] 51)).heap.size = wr.heap.size + 1 := by simp
     have z1 := b1.size
     have z2 : (w1.alloc (.cells #[.func (Fn.func F1) #[] cp1] 131)).heap.size = w1.heap.size + 1 := by simp
     have M1 := hidden ((HM.out.below bw1).alloc (.cells #[.func (Fn.func F1) #[] cp1] 131))
     have M2 := hidden (mx.alloc (.cells #[.func (Fn.func F1) #[] cp1] 131))
     have NN := hidden (news_new w1 #[.func (Fn.func F1) #[] cp1] 131)
     have hfl := HM.out.lt
     have DJ : Hid (∀ b ∈ fp, b ∉ fpx) := fun b hb hb' => by
      have h1 := hfl b hb
      have h2 := rx b hb'
      omega
     have RX := hidden rx
     have BB := hidden (Below.andThen bA (Below.andThen b1 bB))
     clear ov mx rx hv bA bw1 bB b1 hfl
     go_wp2_with (at_builtin; refine wpList_appT (opTy B) rfl _ _ 121 rfl 131 i4 .nilFunc 8 Tryz.underlying121 hi4 hz0 hz1 hz2 rfl Nat.zero_lt_one u5 (opsL K ms j) fp rfl ?_ ⟨w1.heap.size, 0, none⟩ 1 [.func (Fn.func F1) #[] cp1] (K j) fpx rfl ?_ ?_ ?_ ?_ ?_ ?_ ?_; exact M1.out; exact M2.out; exact DJ.out; exact NN.out; (intro u hu; simp at hu; rw [hu]; rfl); exact L1.out; exact L2.out; intro v2 w2 fp2 m1 m2 m3; rw [← HL2.out] at m1; have N1 := hidden m1; have N2 := hidden m2; have N3 := hidden m3; clear m1 m2 m3)
     have hf2 : ∀ b ∈ fp2, w.heap.size <= b := fun b hb => by
      rcases N2.out b hb with h | h | h
      . exact HFP.out b h
      . have := RX.out b h
        omega
      have h1 := h.1
      omega
     have HBB := hidden (BB.out.trans (N3.out.below (N := w.heap.size) (by omega) (fun b hb => HFP.out b hb)))
     have HF2 := hidden hf2
     clear hf2
     go_roundw
     case rel => exact ⟨j + 1, fp2, by omega, by go_num, N1.out, HF2.out, HBB.out⟩
     case measure => simp [intOf]; omega
   have HL2 : Hid (opsL K ms (j + 1) = opsL K ms j) := by unfold Hid; rw [HL.out, if_pos rfl, List.append_nil]
   have HM := hidden (hm.alloc (.cells #[.slice a0 ss.length c0, .slice a1 cs.length c1, .bool true, .slice a3 bs.length c3] 51))
   have HB := hidden (Below.andThen hb (new_below wr (.cells #[.slice a0 ss.length c0, .slice a1 cs.length c1, .bool true, .slice a3 bs.length c3] 51)))
   have HFP := hidden hfp
   clear hm hb hfp HL
   go_wp2
   go_roundw
   case rel => exact ⟨j + 1, fp, by omega, by go_num, by rw [HL2.out]; exact HM.out, HFP.out, HB.out⟩
   case measure => simp [intOf]; omega
 have e : j = ms.length := by omega
 subst e
 have hltb := hm.lt
 obtain ⟨bo, co, hv⟩ := row_shape hm.rd
 subst hv
 have HO := hidden (hm.own (lo := w.heap.size) (hi := wr.heap.size) (fun b hb' => ⟨hfp b hb', hltb b hb'⟩))
 have i2 : ¬ ((ms.length : Int) < (ms.length : Int)) := by omega
 clear hm
 go_wp2
 go_ret
 exact ⟨_, _, rfl, HO.out, hb⟩

theorem flushOp1_runs (w : World) (B p q m : Nat) (hp : Box w p 53 #[.pointer (some ⟨B, 0, none⟩)]) (hq : Box w q 3 #[.int .i64 (m : Int)]) : OpRuns B [p, q] 173 #[.pointer (some ⟨p, 0, none⟩), .pointer (some ⟨q, 0, none⟩)] (flushK m) w := by
 intro x ms ds fm fd hA hM hdis hlt
 dsimp only [flushK] at hlt
 obtain ⟨bm, bd, cm, cd, X, hmm, hdd, hr, r1, r2⟩ := hA
 have hm63 := (row_length hmm.rd).2
 obtain ⟨g, rfl⟩ := row_head hmm (by omega)
 have hdj : ms[m]? = some (ms[m]'(by omega)) := List.getElem?_eq_getElem (by omega)
 generalize ms[m]'(by omega) = d at hdj
 have hgm : ms.getD m memZ = d := getD_at hdj
 obtain ⟨hgl, a0, a1, a3, c0, c1, c3, ss, cs, f, bs, rfl, q0, q1, q2, q3, p0, p1, p3⟩ := disk_at hmm hdj
 have X0 := X
 unfold arrC at X0
 obtain ⟨k0, k1, k2, k3, k4, k5, k6, k7, k8, k9, k10, k11, k12⟩ := X0.cells13
 have zp := hp.lt
 have cp := hp.cell 0
 have zq := hq.lt
 have cq := hq.cell 0
 have hwt := memB_light (hM m _ hdj) f
 dsimp only at hwt
 have zB := X.lt
 have XH := hidden X
 have MH := hidden hmm
 have DH := hidden hdd
 have R0 := hidden p0
 have R1 := hidden p1
 have R3 := hidden p3
 have HG := hidden hgm
 have hS : w.drew.cell? ⟨p, 0, none⟩ = some (.pointer (some ⟨B, 0, none⟩)) /\ w.drew.cell? ⟨q, 0, none⟩ = some (.int .i64 (m : Int)) /\ w.drew.cell? ⟨B, 3, none⟩ = some (.slice (some ⟨g, 0, none⟩) ms.length cm) /\ w.drew.cell? ⟨g, m * 4, none⟩ = some (.slice a0 ss.length c0) /\ w.drew.cell? ⟨g, m * 4 + 1, none⟩ = some (.slice a1 cs.length c1) /\ w.drew.cell? ⟨g, m * 4 + 2, none⟩ = some (.bool f) /\ w.drew.cell? ⟨g, m * 4 + 3, none⟩ = some (.slice a3 bs.length c3) := ⟨cp, cq, k3, q0, q1, q2, q3⟩
 have i1 : (0 : Int) <= (m : Int) := by omega
 have i3 : (m : Int) < (ms.length : Int) := by omega
 clear X X0 hmm hdd p0 p1 p3 hM hdj hgm hdis
 go_enter Tryz.func173, Tryz.ntmps173
 go_wp2_with fail
 refine Upto.start (S := fun w' => w'.cell? ⟨p, 0, none⟩ = some (.pointer (some ⟨B, 0, none⟩)) /\ w'.cell? ⟨q, 0, none⟩ = some (.int .i64 (m : Int)) /\ w'.cell? ⟨B, 3, none⟩ = some (.slice (some ⟨g, 0, none⟩) ms.length cm) /\ w'.cell? ⟨g, m * 4, none⟩ = some (.slice a0 ss.length c0) /\ w'.cell? ⟨g, m * 4 + 1, none⟩ = some (.slice a1 cs.length c1) /\ w'.cell? ⟨g, m * 4 + 2, none⟩ = some (.bool f) /\ w'.cell? ⟨g, m * 4 + 3, none⟩ = some (.slice a3 bs.length c3)) (k := 14) (by kernel_rfl) ?_
 refine Upto.t 0 hS ?_
 refine Upto.t 1 hS ?_
 refine Upto.t 2 hS ?_
 refine Upto.t 3 hS ?_
 refine Upto.t 4 hS ?_
 refine Upto.t 5 hS ?_
 refine Upto.t 6 hS ?_
 refine Upto.t 7 hS ?_
 refine Upto.t 8 hS ?_
 refine Upto.t 9 hS ?_
 refine Upto.t 10 hS ?_
 refine Upto.t 11 hS ?_
 refine Upto.one (i := 12) (by kernel_rfl) rfl (fun K hK => ?_)
 go_simp
 refine (implFlushMem_any _ 109 _ _ _ _ _ _ _ _ _ ss cs f bs R0.out.drew R1.out.drew R3.out.drew (by omega)).mono ?_
 rintro e w2 ⟨u0, u1, u3, rfl, o2, b2'⟩
 have b2 : Below w.heap.size w w2 := (Below.refl w.heap.size w).drew.trans b2'
 have o2b : (tMem 109).Own w2 w.heap.size w2.heap.size [u0, u1, .bool f, u3] _ := o2
 obtain ⟨d0, l0, f0, d1, l1, f1, d3, l3, f3, hv0, hv1, hv3⟩ := mem_slices o2b
 subst hv0 hv1 hv3
 obtain ⟨fpx, mx, rx⟩ := o2b.mine
 obtain ⟨cOld, fz, hgm, fm9, hA9, hMv9⟩ := arr_store (m := m) XH.out MH.out DH.out hr r1 r2 b2 (by omega) mx (fun b hb => (rx b hb).1)
 obtain ⟨o0, t0⟩ := cOld 0 (by omega)
 obtain ⟨o1, t1⟩ := cOld 1 (by omega)
 obtain ⟨o2', t2⟩ := cOld 2 (by omega)
 obtain ⟨o3, t3⟩ := cOld 3 (by omega)
 rw [Nat.add_zero] at t0
 have HA := hidden hA9
 have HMV := hidden hMv9
 have hS2 : w2.cell? ⟨p, 0, none⟩ = some (.pointer (some ⟨B, 0, none⟩)) /\ w2.cell? ⟨q, 0, none⟩ = some (.int .i64 (m : Int)) /\ w2.cell? ⟨B, 3, none⟩ = some (.slice (some ⟨g, 0, none⟩) ms.length cm) /\ w2.cell? ⟨g, m * 4, none⟩ = some (.slice a0 ss.length c0) /\ w2.cell? ⟨g, m * 4 + 1, none⟩ = some (.slice a1 cs.length c1) /\ w2.cell? ⟨g, m * 4 + 2, none⟩ = some (.bool f) /\ w2.cell? ⟨g, m * 4 + 3, none⟩ = some (.slice a3 bs.length c3) := ⟨(b2.cell (p := ⟨p, 0, none⟩) zp).trans cp, (b2.cell (p := ⟨q, 0, none⟩) zq).trans cq, (b2.cell (p := ⟨B, 3, none⟩) zB).trans k3, (b2.cell (p := ⟨g, m * 4, none⟩) hgl).trans q0, (b2.cell (p := ⟨g, m * 4 + 1, none⟩) hgl).trans q1, (b2.cell (p := ⟨g, m * 4 + 2, none⟩) hgl).trans q2, (b2.cell (p := ⟨g, m * 4 + 3, none⟩) hgl).trans q3⟩
 have gB : ¬ g = B := fun e => r1 (e ▸ hgm)
 unfold put4 at HA HMV
 clear cp cq k3 q0 q1 q2 q3 o2 o2b b2 b2' mx rx cOld hA9 hMv9 XH MH DH R0 R1 R3 hwt
 go_wp2_with fail
 refine hK.out _ _ (fun _ => hS2) ?_
 clear hK K
 refine Upto.t 13 hS2 ?_
 refine Upto.one (i := 14) (by kernel_rfl) rfl (fun K hK => ?_)
 go_simp
 refine hK.out _ _ (fun h => absurd rfl h) ?_
 clear hK K
 refine Upto.done (by kernel_rfl) ?_ _
 clear hS hS2 t0 t1 t2 t3 fz
 go_wp2
 refine bodyPost_end (v := .tuple #[]) (results_none rfl _ _ _) rfl ?_
 refine ⟨rfl, fm9, ?_, HMV.out⟩
 show ArrAt _ B x (ms.set m (opF (flushK m) x (ms.getD m memZ))) ds fm9 fd
 rw [HG.out]
 exact HA.out

theorem flushOp_any (w : World) (B m : Nat) : Calls Tryz.prog 164 #[.pointer (some ⟨B, 0, none⟩), .int .i64 (m : Int)] w fun e w' => ∃ v, e = .returned v /\ (opTy B).Own w' w.heap.size w'.heap.size [v] (flushK m) /\ Below w.heap.size w w' := by
 have hmf : ∀ (fn : Fn) (first cap : Array Value) (w : World), (Instr.makeFunc fn first cap).run Tryz.prog w = .ok (.func fn first cap) w := fun _ _ _ _ => rfl
 have hb : Below w.heap.size w ((w.alloc (.cells #[.pointer (some ⟨B, 0, none⟩)] 53)).alloc (.cells #[.int .i64 (m : Int)] 3)) := ((Below.refl _ _).alloc (Nat.le_refl _) _).alloc (by simp) _
 have b0 : Box ((w.alloc (.cells #[.pointer (some ⟨B, 0, none⟩)] 53)).alloc (.cells #[.int .i64 (m : Int)] 3)) w.heap.size 53 #[.pointer (some ⟨B, 0, none⟩)] := (Box.new w _ _).alloc _
 have b1 := Box.new (w.alloc (.cells #[.pointer (some ⟨B, 0, none⟩)] 53)) 3 #[.int .i64 (m : Int)]
 rw [World.size_alloc] at b1
 have hsz : ((w.alloc (.cells #[.pointer (some ⟨B, 0, none⟩)] 53)).alloc (.cells #[.int .i64 (m : Int)] 3)).heap.size = w.heap.size + 1 + 1 := by simp
 have HO : Hid ((opTy B).Own ((w.alloc (.cells #[.pointer (some ⟨B, 0, none⟩)] 53)).alloc (.cells #[.int .i64 (m : Int)] 3)) w.heap.size ((w.alloc (.cells #[.pointer (some ⟨B, 0, none⟩)] 53)).alloc (.cells #[.int .i64 (m : Int)] 3)).heap.size [.func (Fn.func 173) #[] #[.pointer (some ⟨w.heap.size, 0, none⟩), .pointer (some ⟨w.heap.size + 1, 0, none⟩)]] (flushK m)) := by
  refine ⟨[w.heap.size, w.heap.size + 1], ⟨173, _, rfl, ?_, ?_, fun w' hk hs => ?_⟩, ?_, ?_⟩
  . exact enters_of Tryz.func173 (by kernel_rfl) (by kernel_rfl) _
  . intro b hb'; simp at hb'; omega
  . exact flushOp1_runs w' B _ _ m (b0.kept (hk _ (by simp))) (b1.kept (hk _ (by simp)))
  . simp
  intro b hb'; simp at hb'; omega
 have HB := hidden hb
 clear hb b0 b1 hsz
 go_enter Tryz.func164, Tryz.ntmps164
 go_wp2
 go_ret
 exact ⟨_, rfl, HO.out, HB.out⟩

theorem flushes1_any (w : World) (B p m : Nat) (hp : Box w p 53 #[.pointer (some ⟨B, 0, none⟩)]) : Calls Tryz.prog 163 #[.int .i64 (m : Int), .pointer (some ⟨p, 0, none⟩)] w fun e w' => ∃ v, e = .returned v /\ (opTy B).Own w' w.heap.size w'.heap.size [v] (flushK m) /\ Below w.heap.size w w' := by
 have c0 : w.cell? ⟨p, 0, none⟩ = some (.pointer (some ⟨B, 0, none⟩)) := hp.cell 0
 go_enter Tryz.func163, Tryz.ntmps163
 go_wp2_with fail
 refine (flushOp_any _ B m).mono ?_
 rintro e w1 ⟨v, rfl, ov, b1⟩
 have OV := hidden ov
 have B1 := hidden b1
 clear ov b1
 go_wp2
 go_ret
 exact ⟨_, rfl, OV.out, B1.out⟩

theorem flushes_any (w : World) (B : Nat) (x : ArrN) (ms : List MemD) (ds : List (Int × List Int)) (fm fd : List Nat) (h : ArrAt w B x ms ds fm fd) (hl : ms.length <= 2097152) : Calls Tryz.prog 150 #[.pointer (some ⟨B, 0, none⟩)] w fun e w' => ∃ bo co, e = .returned (.slice bo (opsL flushK ms ms.length).length co) /\ (tOps B).Own w' w.heap.size w'.heap.size [.slice bo (opsL flushK ms ms.length).length co] (opsL flushK ms ms.length) /\ Below w.heap.size w w' := by
 have hmf : ∀ (fn : Fn) (first cap : Array Value) (w : World), (Instr.makeFunc fn first cap).run Tryz.prog w = .ok (.func fn first cap) w := fun _ _ _ _ => rfl
 have bA := new_below w (.cells #[.pointer (some ⟨B, 0, none⟩)] 53)
 have bx := Box.new w 53 #[.pointer (some ⟨B, 0, none⟩)]
 have HA := hidden (h.alloc (.cells #[.pointer (some ⟨B, 0, none⟩)] 53))
 have hlt := bx.lt
 clear h
 go_enter Tryz.func150, Tryz.ntmps150
 go_wp2_with fail
 refine (opsOf_any _ B x ms ds fm fd HA.out hl flushK 163 #[.pointer (some ⟨w.heap.size, 0, none⟩)] (fun m => enters_of Tryz.func163 (by kernel_rfl) (by kernel_rfl) _) (fun m w' hm hb => ?_)).mono ?_
 . exact flushes1_any w' B _ m (bx.below hb hlt)
 rintro e w1 ⟨bo, co, rfl, oo, b1⟩
 have OO := hidden (oo.widen (lo' := w.heap.size) (hi' := w1.heap.size) (by simp) (Nat.le_refl _))
 have B1 := hidden (Below.andThen bA b1)
 clear oo b1 bA bx
 go_wp2
 go_ret
 exact ⟨_, _, rfl, OO.out, B1.out⟩

theorem syncDisks_any (w : World) (B : Nat) (x : ArrN) (ms : List MemD) (ds : List (Int × List Int)) (fm fd : List Nat) (h : ArrAt w B x ms ds fm fd) (hf : x.fuse <= 1000) (hdn : x.down = false) (hM : MsOk ms) (hl : ms.length <= 2097152) : Calls Tryz.prog 118 #[.pointer (some ⟨B, 0, none⟩)] w (Did w B fm ds fd (syncS (x, ms) ms.length)) := by
 have HA := hidden h
 have HR : Hid (runS (x, ms) (opsL flushK ms ms.length) = syncS (x, ms) ms.length) := run_sync (x, ms) ms.length
 have HF : Hid (x.fuse <= 1000 /\ x.down = false) := ⟨hf, hdn⟩
 have hlB := h.lt
 have hlm := h.ltm.1
 clear h hf hdn
 go_enter Tryz.func118, Tryz.ntmps118
 go_wp2_with fail
 refine (flushes_any _ B x ms ds fm fd HA.out hl).mono ?_
 rintro e w1 ⟨bo, co, rfl, oo, b1⟩
 obtain ⟨fo, mo, ro⟩ := oo.mine
 have HP := hidden (perform_any w1 B x ms ds fm fd (HA.out.below b1) HF.out.1 HF.out.2 hM bo co (opsL flushK ms ms.length) fo mo (fun b hb => ⟨fun e => by have := (ro b hb).1; omega, fun hm => by have h1 := (ro b hb).1; have h2 := hlm b hm; omega⟩) (fun o ho => by
  obtain ⟨i, hi, hfl, rfl⟩ := opsL_mem ho
  exact ⟨hi, hfl⟩))
 have MB := hidden ((Moved.refl B fm w).below b1)
 clear oo mo ro b1 hlm
 go_wp2_with fail
 refine HP.out.mono ?_
 rintro e w2 hd
 rw [HR.out] at hd
 obtain ⟨he, fm2, hA2, hMv2⟩ := hd
 have HD : Hid (Did w B fm ds fd (syncS (x, ms) ms.length) e w2) := ⟨he, fm2, hA2, MB.out.trans hMv2⟩
 unfold EndOf at he
 clear hA2 hMv2 HR
 cases hst : (syncS (x, ms) ms.length).1.down
 . rw [if_neg (by simp [hst])] at he
   subst he
   clear hst
   go_wp2
   refine bodyPost_end (v := .tuple #[]) (results_none rfl _ _ _) rfl ?_
   exact HD.out
 rw [if_pos hst] at he
 subst he
 clear hst
 go_wp2
 exact ⟨rfl, HD.out⟩

theorem superFor_any (w : World) (x : ArrN) (am ad : Option Addr) (nm cm nd cd : Nat) (m : Int) : Calls Tryz.prog 162 #[.agg #[.int .i64 x.id, .int .i64 x.n, .int .i64 x.s, .slice am nm cm, .int .i64 x.lost, .int .i64 x.built, .int .i64 x.seq, .int .i64 x.tail, .int .i64 x.gen, .slice ad nd cd, .int .i64 x.fuse, .bool x.down, .bool x.broken], .int .i64 m] w fun e w' => e = .returned (.agg #[.int .i64 x.id, .int .i64 x.gen, .int .i64 m, .int .i64 x.n, .int .i64 x.s, .int .i64 x.tail, .int .i64 x.lost, .int .i64 x.built]) /\ Below w.heap.size w w' := by
 have X : Box ((w.alloc (.cells #[.int .i64 x.id, .int .i64 x.n, .int .i64 x.s, .slice am nm cm, .int .i64 x.lost, .int .i64 x.built, .int .i64 x.seq, .int .i64 x.tail, .int .i64 x.gen, .slice ad nd cd, .int .i64 x.fuse, .bool x.down, .bool x.broken] 33)).alloc (.cells #[.int .i64 0, .int .i64 0, .int .i64 0, .int .i64 0, .int .i64 0, .int .i64 0, .int .i64 0, .int .i64 0] 114)) w.heap.size 33 #[.int .i64 x.id, .int .i64 x.n, .int .i64 x.s, .slice am nm cm, .int .i64 x.lost, .int .i64 x.built, .int .i64 x.seq, .int .i64 x.tail, .int .i64 x.gen, .slice ad nd cd, .int .i64 x.fuse, .bool x.down, .bool x.broken] := (Box.new w _ _).alloc _
 obtain ⟨k0, k1, k2, k3, k4, k5, k6, k7, k8, k9, k10, k11, k12⟩ := X.cells13
 clear X
 go_enter Tryz.func162, Tryz.ntmps162
 go_wp2
 refine bodyPost_ret (v := .agg #[.int .i64 x.id, .int .i64 x.gen, .int .i64 m, .int .i64 x.n, .int .i64 x.s, .int .i64 x.tail, .int .i64 x.lost, .int .i64 x.built]) (by simp [results, Tryz.results162, go_sem]) rfl ?_
 exact ⟨rfl, (new_below w _).alloc (by simp) _⟩

theorem superOp1_runs (w : World) (B p q m : Nat) (hp : Box w p 53 #[.pointer (some ⟨B, 0, none⟩)]) (hq : Box w q 3 #[.int .i64 (m : Int)]) : OpRuns B [p, q] 160 #[.pointer (some ⟨p, 0, none⟩), .pointer (some ⟨q, 0, none⟩)] (supK m) w := by
 intro x ms ds fm fd hA hM hdis hlt
 dsimp only [supK] at hlt
 obtain ⟨bm, bd, cm, cd, X, hmm, hdd, hr, r1, r2⟩ := hA
 have hm63 := (row_length hmm.rd).2
 obtain ⟨g, rfl⟩ := row_head hmm (by omega)
 have hdj : ms[m]? = some (ms[m]'(by omega)) := List.getElem?_eq_getElem (by omega)
 generalize ms[m]'(by omega) = d at hdj
 have hgm : ms.getD m memZ = d := getD_at hdj
 obtain ⟨hgl, a0, a1, a3, c0, c1, c3, ss, cs, f, bs, rfl, q0, q1, q2, q3, p0, p1, p3⟩ := disk_at hmm hdj
 have X0 := X
 unfold arrC at X0
 obtain ⟨k0, k1, k2, k3, k4, k5, k6, k7, k8, k9, k10, k11, k12⟩ := X0.cells13
 have zp := hp.lt
 have cp := hp.cell 0
 have zq := hq.lt
 have cq := hq.cell 0
 have hwt := memB_light (hM m _ hdj) f
 dsimp only at hwt
 have zB := X.lt
 have XH := hidden X
 have MH := hidden hmm
 have DH := hidden hdd
 have R0 := hidden p0
 have R1 := hidden p1
 have R3 := hidden p3
 have HG := hidden hgm
 have hS : w.drew.cell? ⟨p, 0, none⟩ = some (.pointer (some ⟨B, 0, none⟩)) /\ w.drew.cell? ⟨q, 0, none⟩ = some (.int .i64 (m : Int)) /\ w.drew.cell? ⟨B, 0, none⟩ = some (.int .i64 x.id) /\ w.drew.cell? ⟨B, 1, none⟩ = some (.int .i64 x.n) /\ w.drew.cell? ⟨B, 2, none⟩ = some (.int .i64 x.s) /\ w.drew.cell? ⟨B, 3, none⟩ = some (.slice (some ⟨g, 0, none⟩) ms.length cm) /\ w.drew.cell? ⟨B, 4, none⟩ = some (.int .i64 x.lost) /\ w.drew.cell? ⟨B, 5, none⟩ = some (.int .i64 x.built) /\ w.drew.cell? ⟨B, 6, none⟩ = some (.int .i64 x.seq) /\ w.drew.cell? ⟨B, 7, none⟩ = some (.int .i64 x.tail) /\ w.drew.cell? ⟨B, 8, none⟩ = some (.int .i64 x.gen) /\ w.drew.cell? ⟨B, 9, none⟩ = some (.slice bd ds.length cd) /\ w.drew.cell? ⟨B, 10, none⟩ = some (.int .i64 x.fuse) /\ w.drew.cell? ⟨B, 11, none⟩ = some (.bool x.down) /\ w.drew.cell? ⟨B, 12, none⟩ = some (.bool x.broken) /\ w.drew.cell? ⟨g, m * 4, none⟩ = some (.slice a0 ss.length c0) /\ w.drew.cell? ⟨g, m * 4 + 1, none⟩ = some (.slice a1 cs.length c1) /\ w.drew.cell? ⟨g, m * 4 + 2, none⟩ = some (.bool f) /\ w.drew.cell? ⟨g, m * 4 + 3, none⟩ = some (.slice a3 bs.length c3) := ⟨cp, cq, k0, k1, k2, k3, k4, k5, k6, k7, k8, k9, k10, k11, k12, q0, q1, q2, q3⟩
 have i1 : (0 : Int) <= (m : Int) := by omega
 have i3 : (m : Int) < (ms.length : Int) := by omega
 clear X X0 hmm hdd p0 p1 p3 hM hdj hgm hdis
 go_enter Tryz.func160, Tryz.ntmps160
 go_wp2_with fail
 refine Upto.start (S := fun w' => w'.cell? ⟨p, 0, none⟩ = some (.pointer (some ⟨B, 0, none⟩)) /\ w'.cell? ⟨q, 0, none⟩ = some (.int .i64 (m : Int)) /\ w'.cell? ⟨B, 0, none⟩ = some (.int .i64 x.id) /\ w'.cell? ⟨B, 1, none⟩ = some (.int .i64 x.n) /\ w'.cell? ⟨B, 2, none⟩ = some (.int .i64 x.s) /\ w'.cell? ⟨B, 3, none⟩ = some (.slice (some ⟨g, 0, none⟩) ms.length cm) /\ w'.cell? ⟨B, 4, none⟩ = some (.int .i64 x.lost) /\ w'.cell? ⟨B, 5, none⟩ = some (.int .i64 x.built) /\ w'.cell? ⟨B, 6, none⟩ = some (.int .i64 x.seq) /\ w'.cell? ⟨B, 7, none⟩ = some (.int .i64 x.tail) /\ w'.cell? ⟨B, 8, none⟩ = some (.int .i64 x.gen) /\ w'.cell? ⟨B, 9, none⟩ = some (.slice bd ds.length cd) /\ w'.cell? ⟨B, 10, none⟩ = some (.int .i64 x.fuse) /\ w'.cell? ⟨B, 11, none⟩ = some (.bool x.down) /\ w'.cell? ⟨B, 12, none⟩ = some (.bool x.broken) /\ w'.cell? ⟨g, m * 4, none⟩ = some (.slice a0 ss.length c0) /\ w'.cell? ⟨g, m * 4 + 1, none⟩ = some (.slice a1 cs.length c1) /\ w'.cell? ⟨g, m * 4 + 2, none⟩ = some (.bool f) /\ w'.cell? ⟨g, m * 4 + 3, none⟩ = some (.slice a3 bs.length c3)) (k := 19) (by kernel_rfl) ?_
 refine Upto.t 0 hS ?_
 refine Upto.t 1 hS ?_
 refine Upto.t 2 hS ?_
 refine Upto.t 3 hS ?_
 refine Upto.t 4 hS ?_
 refine Upto.t 5 hS ?_
 refine Upto.t 6 hS ?_
 refine Upto.t 7 hS ?_
 refine Upto.t 8 hS ?_
 refine Upto.t 9 hS ?_
 refine Upto.t 10 hS ?_
 refine Upto.t 11 hS ?_
 refine Upto.t 12 hS ?_
 refine Upto.t 13 hS ?_
 refine Upto.t 14 hS ?_
 refine Upto.t 15 hS ?_
 refine Upto.one (i := 16) (by kernel_rfl) rfl (fun K hK => ?_)
 go_simp
 refine (superFor_any _ x _ _ _ _ _ _ (m : Int)).mono ?_
 rintro e w1 ⟨rfl, b1'⟩
 have b1 : Below w.heap.size w w1 := (Below.refl w.heap.size w).drew.trans b1'
 have hS1 : w1.cell? ⟨p, 0, none⟩ = some (.pointer (some ⟨B, 0, none⟩)) /\ w1.cell? ⟨q, 0, none⟩ = some (.int .i64 (m : Int)) /\ w1.cell? ⟨B, 0, none⟩ = some (.int .i64 x.id) /\ w1.cell? ⟨B, 1, none⟩ = some (.int .i64 x.n) /\ w1.cell? ⟨B, 2, none⟩ = some (.int .i64 x.s) /\ w1.cell? ⟨B, 3, none⟩ = some (.slice (some ⟨g, 0, none⟩) ms.length cm) /\ w1.cell? ⟨B, 4, none⟩ = some (.int .i64 x.lost) /\ w1.cell? ⟨B, 5, none⟩ = some (.int .i64 x.built) /\ w1.cell? ⟨B, 6, none⟩ = some (.int .i64 x.seq) /\ w1.cell? ⟨B, 7, none⟩ = some (.int .i64 x.tail) /\ w1.cell? ⟨B, 8, none⟩ = some (.int .i64 x.gen) /\ w1.cell? ⟨B, 9, none⟩ = some (.slice bd ds.length cd) /\ w1.cell? ⟨B, 10, none⟩ = some (.int .i64 x.fuse) /\ w1.cell? ⟨B, 11, none⟩ = some (.bool x.down) /\ w1.cell? ⟨B, 12, none⟩ = some (.bool x.broken) /\ w1.cell? ⟨g, m * 4, none⟩ = some (.slice a0 ss.length c0) /\ w1.cell? ⟨g, m * 4 + 1, none⟩ = some (.slice a1 cs.length c1) /\ w1.cell? ⟨g, m * 4 + 2, none⟩ = some (.bool f) /\ w1.cell? ⟨g, m * 4 + 3, none⟩ = some (.slice a3 bs.length c3) := ⟨(b1.cell (p := ⟨p, 0, none⟩) zp).trans cp, (b1.cell (p := ⟨q, 0, none⟩) zq).trans cq, (b1.cell (p := ⟨B, 0, none⟩) zB).trans k0, (b1.cell (p := ⟨B, 1, none⟩) zB).trans k1, (b1.cell (p := ⟨B, 2, none⟩) zB).trans k2, (b1.cell (p := ⟨B, 3, none⟩) zB).trans k3, (b1.cell (p := ⟨B, 4, none⟩) zB).trans k4, (b1.cell (p := ⟨B, 5, none⟩) zB).trans k5, (b1.cell (p := ⟨B, 6, none⟩) zB).trans k6, (b1.cell (p := ⟨B, 7, none⟩) zB).trans k7, (b1.cell (p := ⟨B, 8, none⟩) zB).trans k8, (b1.cell (p := ⟨B, 9, none⟩) zB).trans k9, (b1.cell (p := ⟨B, 10, none⟩) zB).trans k10, (b1.cell (p := ⟨B, 11, none⟩) zB).trans k11, (b1.cell (p := ⟨B, 12, none⟩) zB).trans k12, (b1.cell (p := ⟨g, m * 4, none⟩) hgl).trans q0, (b1.cell (p := ⟨g, m * 4 + 1, none⟩) hgl).trans q1, (b1.cell (p := ⟨g, m * 4 + 2, none⟩) hgl).trans q2, (b1.cell (p := ⟨g, m * 4 + 3, none⟩) hgl).trans q3⟩
 have zb1 := b1.size
 have B1 := hidden b1
 clear b1 b1'
 go_wp2_with fail
 refine hK.out _ _ (fun _ => hS1) ?_
 clear hK K
 refine Upto.one (i := 17) (by kernel_rfl) rfl (fun K hK => ?_)
 go_simp
 refine (implWriteSuper_any _ 109 _ _ _ _ _ _ _ _ _ ss cs f bs (supA x m) (R0.out.below B1.out) (R1.out.below B1.out) (R3.out.below B1.out) (by omega)).mono ?_
 rintro e w2 ⟨u0, u1, u3, rfl, o2, b2'⟩
 have b2 : Below w.heap.size w w2 := Below.andThen B1.out b2'
 have o2b : (tMem 109).Own w2 w.heap.size w2.heap.size [u0, u1, .bool f, u3] _ := o2.widen zb1 (Nat.le_refl _)
 obtain ⟨d0, l0, f0, d1, l1, f1, d3, l3, f3, hv0, hv1, hv3⟩ := mem_slices o2b
 subst hv0 hv1 hv3
 obtain ⟨fpx, mx, rx⟩ := o2b.mine
 obtain ⟨cOld, fz, hgm, fm9, hA9, hMv9⟩ := arr_store (m := m) XH.out MH.out DH.out hr r1 r2 b2 (by omega) mx (fun b hb => (rx b hb).1)
 obtain ⟨o0, t0⟩ := cOld 0 (by omega)
 obtain ⟨o1, t1⟩ := cOld 1 (by omega)
 obtain ⟨o2', t2⟩ := cOld 2 (by omega)
 obtain ⟨o3, t3⟩ := cOld 3 (by omega)
 rw [Nat.add_zero] at t0
 have HA := hidden hA9
 have HMV := hidden hMv9
 have hS2 : w2.cell? ⟨p, 0, none⟩ = some (.pointer (some ⟨B, 0, none⟩)) /\ w2.cell? ⟨q, 0, none⟩ = some (.int .i64 (m : Int)) /\ w2.cell? ⟨B, 0, none⟩ = some (.int .i64 x.id) /\ w2.cell? ⟨B, 1, none⟩ = some (.int .i64 x.n) /\ w2.cell? ⟨B, 2, none⟩ = some (.int .i64 x.s) /\ w2.cell? ⟨B, 3, none⟩ = some (.slice (some ⟨g, 0, none⟩) ms.length cm) /\ w2.cell? ⟨B, 4, none⟩ = some (.int .i64 x.lost) /\ w2.cell? ⟨B, 5, none⟩ = some (.int .i64 x.built) /\ w2.cell? ⟨B, 6, none⟩ = some (.int .i64 x.seq) /\ w2.cell? ⟨B, 7, none⟩ = some (.int .i64 x.tail) /\ w2.cell? ⟨B, 8, none⟩ = some (.int .i64 x.gen) /\ w2.cell? ⟨B, 9, none⟩ = some (.slice bd ds.length cd) /\ w2.cell? ⟨B, 10, none⟩ = some (.int .i64 x.fuse) /\ w2.cell? ⟨B, 11, none⟩ = some (.bool x.down) /\ w2.cell? ⟨B, 12, none⟩ = some (.bool x.broken) /\ w2.cell? ⟨g, m * 4, none⟩ = some (.slice a0 ss.length c0) /\ w2.cell? ⟨g, m * 4 + 1, none⟩ = some (.slice a1 cs.length c1) /\ w2.cell? ⟨g, m * 4 + 2, none⟩ = some (.bool f) /\ w2.cell? ⟨g, m * 4 + 3, none⟩ = some (.slice a3 bs.length c3) := ⟨(b2.cell (p := ⟨p, 0, none⟩) zp).trans cp, (b2.cell (p := ⟨q, 0, none⟩) zq).trans cq, (b2.cell (p := ⟨B, 0, none⟩) zB).trans k0, (b2.cell (p := ⟨B, 1, none⟩) zB).trans k1, (b2.cell (p := ⟨B, 2, none⟩) zB).trans k2, (b2.cell (p := ⟨B, 3, none⟩) zB).trans k3, (b2.cell (p := ⟨B, 4, none⟩) zB).trans k4, (b2.cell (p := ⟨B, 5, none⟩) zB).trans k5, (b2.cell (p := ⟨B, 6, none⟩) zB).trans k6, (b2.cell (p := ⟨B, 7, none⟩) zB).trans k7, (b2.cell (p := ⟨B, 8, none⟩) zB).trans k8, (b2.cell (p := ⟨B, 9, none⟩) zB).trans k9, (b2.cell (p := ⟨B, 10, none⟩) zB).trans k10, (b2.cell (p := ⟨B, 11, none⟩) zB).trans k11, (b2.cell (p := ⟨B, 12, none⟩) zB).trans k12, (b2.cell (p := ⟨g, m * 4, none⟩) hgl).trans q0, (b2.cell (p := ⟨g, m * 4 + 1, none⟩) hgl).trans q1, (b2.cell (p := ⟨g, m * 4 + 2, none⟩) hgl).trans q2, (b2.cell (p := ⟨g, m * 4 + 3, none⟩) hgl).trans q3⟩
 have gB : ¬ g = B := fun e => r1 (e ▸ hgm)
 unfold put4 at HA HMV
 clear cp cq k0 k1 k2 k3 k4 k5 k6 k7 k8 k9 k10 k11 k12 q0 q1 q2 q3 o2 o2b b2 b2' mx rx cOld hA9 hMv9 XH MH DH R0 R1 R3 hwt hS1 B1
 go_wp2_with fail
 refine hK.out _ _ (fun _ => hS2) ?_
 clear hK K
 refine Upto.t 18 hS2 ?_
 refine Upto.one (i := 19) (by kernel_rfl) rfl (fun K hK => ?_)
 go_simp
 refine hK.out _ _ (fun h => absurd rfl h) ?_
 clear hK K
 refine Upto.done (by kernel_rfl) ?_ _
 clear hS hS2 t0 t1 t2 t3 fz
 go_wp2
 refine bodyPost_end (v := .tuple #[]) (results_none rfl _ _ _) rfl ?_
 refine ⟨rfl, fm9, ?_, HMV.out⟩
 show ArrAt _ B x (ms.set m (opF (supK m) x (ms.getD m memZ))) ds fm9 fd
 rw [HG.out]
 exact HA.out

theorem superOp_any (w : World) (B m : Nat) : Calls Tryz.prog 149 #[.pointer (some ⟨B, 0, none⟩), .int .i64 (m : Int)] w fun e w' => ∃ v, e = .returned v /\ (opTy B).Own w' w.heap.size w'.heap.size [v] (supK m) /\ Below w.heap.size w w' := by
 have hmf : ∀ (fn : Fn) (first cap : Array Value) (w : World), (Instr.makeFunc fn first cap).run Tryz.prog w = .ok (.func fn first cap) w := fun _ _ _ _ => rfl
 have hb : Below w.heap.size w ((w.alloc (.cells #[.pointer (some ⟨B, 0, none⟩)] 53)).alloc (.cells #[.int .i64 (m : Int)] 3)) := ((Below.refl _ _).alloc (Nat.le_refl _) _).alloc (by simp) _
 have b0 : Box ((w.alloc (.cells #[.pointer (some ⟨B, 0, none⟩)] 53)).alloc (.cells #[.int .i64 (m : Int)] 3)) w.heap.size 53 #[.pointer (some ⟨B, 0, none⟩)] := (Box.new w _ _).alloc _
 have b1 := Box.new (w.alloc (.cells #[.pointer (some ⟨B, 0, none⟩)] 53)) 3 #[.int .i64 (m : Int)]
 rw [World.size_alloc] at b1
 have hsz : ((w.alloc (.cells #[.pointer (some ⟨B, 0, none⟩)] 53)).alloc (.cells #[.int .i64 (m : Int)] 3)).heap.size = w.heap.size + 1 + 1 := by simp
 have HO : Hid ((opTy B).Own ((w.alloc (.cells #[.pointer (some ⟨B, 0, none⟩)] 53)).alloc (.cells #[.int .i64 (m : Int)] 3)) w.heap.size ((w.alloc (.cells #[.pointer (some ⟨B, 0, none⟩)] 53)).alloc (.cells #[.int .i64 (m : Int)] 3)).heap.size [.func (Fn.func 160) #[] #[.pointer (some ⟨w.heap.size, 0, none⟩), .pointer (some ⟨w.heap.size + 1, 0, none⟩)]] (supK m)) := by
  refine ⟨[w.heap.size, w.heap.size + 1], ⟨160, _, rfl, ?_, ?_, fun w' hk hs => ?_⟩, ?_, ?_⟩
  . exact enters_of Tryz.func160 (by kernel_rfl) (by kernel_rfl) _
  . intro b hb'; simp at hb'; omega
  . exact superOp1_runs w' B _ _ m (b0.kept (hk _ (by simp))) (b1.kept (hk _ (by simp)))
  . simp
  intro b hb'; simp at hb'; omega
 have HB := hidden hb
 clear hb b0 b1 hsz
 go_enter Tryz.func149, Tryz.ntmps149
 go_wp2
 go_ret
 exact ⟨_, rfl, HO.out, HB.out⟩

theorem superWrites1_any (w : World) (B p m : Nat) (hp : Box w p 53 #[.pointer (some ⟨B, 0, none⟩)]) : Calls Tryz.prog 148 #[.int .i64 (m : Int), .pointer (some ⟨p, 0, none⟩)] w fun e w' => ∃ v, e = .returned v /\ (opTy B).Own w' w.heap.size w'.heap.size [v] (supK m) /\ Below w.heap.size w w' := by
 have c0 : w.cell? ⟨p, 0, none⟩ = some (.pointer (some ⟨B, 0, none⟩)) := hp.cell 0
 go_enter Tryz.func148, Tryz.ntmps148
 go_wp2_with fail
 refine (superOp_any _ B m).mono ?_
 rintro e w1 ⟨v, rfl, ov, b1⟩
 have OV := hidden ov
 have B1 := hidden b1
 clear ov b1
 go_wp2
 go_ret
 exact ⟨_, rfl, OV.out, B1.out⟩

theorem superWrites_any (w : World) (B : Nat) (x : ArrN) (ms : List MemD) (ds : List (Int × List Int)) (fm fd : List Nat) (h : ArrAt w B x ms ds fm fd) (hl : ms.length <= 2097152) : Calls Tryz.prog 117 #[.pointer (some ⟨B, 0, none⟩)] w fun e w' => ∃ bo co, e = .returned (.slice bo (opsL supK ms ms.length).length co) /\ (tOps B).Own w' w.heap.size w'.heap.size [.slice bo (opsL supK ms ms.length).length co] (opsL supK ms ms.length) /\ Below w.heap.size w w' := by
 have hmf : ∀ (fn : Fn) (first cap : Array Value) (w : World), (Instr.makeFunc fn first cap).run Tryz.prog w = .ok (.func fn first cap) w := fun _ _ _ _ => rfl
 have bA := new_below w (.cells #[.pointer (some ⟨B, 0, none⟩)] 53)
 have bx := Box.new w 53 #[.pointer (some ⟨B, 0, none⟩)]
 have HA := hidden (h.alloc (.cells #[.pointer (some ⟨B, 0, none⟩)] 53))
 have hlt := bx.lt
 clear h
 go_enter Tryz.func117, Tryz.ntmps117
 go_wp2_with fail
 refine (opsOf_any _ B x ms ds fm fd HA.out hl supK 148 #[.pointer (some ⟨w.heap.size, 0, none⟩)] (fun m => enters_of Tryz.func148 (by kernel_rfl) (by kernel_rfl) _) (fun m w' hm hb => ?_)).mono ?_
 . exact superWrites1_any w' B _ m (bx.below hb hlt)
 rintro e w1 ⟨bo, co, rfl, oo, b1⟩
 have OO := hidden (oo.widen (lo' := w.heap.size) (hi' := w1.heap.size) (by simp) (Nat.le_refl _))
 have B1 := hidden (Below.andThen bA b1)
 clear oo b1 bA bx
 go_wp2
 go_ret
 exact ⟨_, _, rfl, OO.out, B1.out⟩

theorem arr_marked {w : World} {B : Nat} {x : ArrN} {ms : List MemD} {ds : List (Int × List Int)} {fm fd : List Nat} (h : ArrAt w B x ms ds fm fd) : ArrAt (w.setCell ⟨B, 8, none⟩ (.int .i64 (x.gen + 1))) B {x with gen := x.gen + 1} ms ds fm fd := by
 obtain ⟨bm, bd, cm, cd, X, hm, hd, hr, r1, r2⟩ := h
 exact ⟨bm, bd, cm, cd, X.set 8 _, hm.setCell r1 _, hd.setCell r2 _, hr, r1, r2⟩
theorem arr_tail {w : World} {B : Nat} {x : ArrN} {ms : List MemD} {ds : List (Int × List Int)} {fm fd : List Nat} (h : ArrAt w B x ms ds fm fd) : ArrAt (w.setCell ⟨B, 7, none⟩ (.int .i64 x.seq)) B {x with tail := x.seq} ms ds fm fd := by
 obtain ⟨bm, bd, cm, cd, X, hm, hd, hr, r1, r2⟩ := h
 exact ⟨bm, bd, cm, cd, X.set 7 _, hm.setCell r1 _, hd.setCell r2 _, hr, r1, r2⟩
def SupFit (x : ArrN) (n : Nat) : Prop := ∀ i : Nat, i < n -> supB (supA x i) = true
theorem sup_fit {x : ArrN} {ms : List MemD} {ds : List (Int × List Int)} (h : arrB x ms ds = true) (hg : x.gen < 60000) (t : Int) (ht : t = x.tail ∨ t = x.seq) : SupFit {x with gen := x.gen + 1, tail := t} ms.length := by
 intro i hi
 have hl := arr_len h
 unfold arrB lostB6 seqB6 at h
 simp only [Bool.and_eq_true, geoB_iff, inB_iff, decide_eq_true_eq, Bool.or_eq_true, Bool.not_eq_true', decide_eq_false_iff_not] at h
 obtain ⟨hgeo, hid, _, _, ⟨hlo, hbu, hlb⟩, htl, hsq, _, hgen, _⟩ := h
 rw [supB_iff]
 unfold supA
 dsimp only
 refine ⟨hgeo, ?_, ⟨by omega, by omega⟩, hid, ⟨by omega, by omega⟩, ⟨by rcases ht with rfl | rfl <;> omega, by rcases ht with rfl | rfl <;> omega⟩⟩
 by_cases e : x.lost = -1
 . exact .inl ⟨e, hlb.resolve_left (fun h => h e)⟩
 exact .inr ⟨e, by omega, hlo.2, hbu.1, hbu.2⟩
theorem run_mark {x : ArrN} {ms : List MemD} (hM : MsOk ms) (hf : x.fuse <= 1000) (hu : SupFit {x with gen := x.gen + 1} ms.length) : runS ({x with gen := x.gen + 1}, ms) (opsL supK ms ms.length) = supsS ({x with gen := x.gen + 1}, ms) ms.length :=
 run_sups (q := ({x with gen := x.gen + 1}, ms)) hM hf hu ms.length (Nat.le_refl _)
theorem syncS_down {q : ArrN × List MemD} (h : q.1.down = true) : ∀ j, syncS q j = q
 | 0 => rfl
 | j + 1 => by rw [syncS_succ, syncS_down h j, doS_down _ _ h]

theorem markI_any (w : World) (B : Nat) (x : ArrN) (ms : List MemD) (ds : List (Int × List Int)) (fm fd : List Nat) (h : ArrAt w B x ms ds fm fd) (hf : x.fuse <= 1000) (hdn : x.down = false) (hM : MsOk ms) (hl : ms.length <= 2097152) (hg0 : 0 <= x.gen) (hg : x.gen < 60000) (hu : SupFit {x with gen := x.gen + 1} ms.length) : Calls Tryz.prog 76 #[.pointer (some ⟨B, 0, none⟩)] w (Did w B fm ds fd (markS (x, ms))) := by
 have k8 : w.cell? ⟨B, 8, none⟩ = some (.int .i64 x.gen) := by
  obtain ⟨bm, bd, cm, cd, X, _⟩ := h
  unfold arrC at X
  exact X.cells13.2.2.2.2.2.2.2.2.1
 have fz : ∀ j, w.frozen? ⟨B, j, none⟩ = false := by
  obtain ⟨bm, bd, cm, cd, X, _⟩ := h
  exact X.frozen
 have hw1 : IntKind.i64.wrap (x.gen + 1) = x.gen + 1 := IntWalk.i64_in _ (by omega)
 have HA := hidden (arr_marked h)
 have MS := hidden (Moved.set (B := B) (j := 8) (fm := fm) (w := w) (.int .i64 (x.gen + 1)))
 have HR := hidden (run_mark hM hf hu)
 have HF : Hid (x.fuse <= 1000 /\ x.down = false) := ⟨hf, hdn⟩
 have HMK : Hid (markS (x, ms) = syncS (supsS ({x with gen := x.gen + 1}, ms) ms.length) ms.length) := rfl
 have HK := hidden (supsS_keeps (q := ({x with gen := x.gen + 1}, ms)) hM hf ms.length)
 have hlB := HA.out.lt
 have hlm := HA.out.ltm.1
 clear h hf hdn hg0 hg hu
 go_enter Tryz.func76, Tryz.ntmps76
 go_wp2_with fail
 clear k8 fz
 generalize w.setCell ⟨B, 8, none⟩ (.int .i64 (x.gen + 1)) = w0 at HA MS hlB hlm ⊢
 refine (superWrites_any _ B {x with gen := x.gen + 1} ms ds fm fd HA.out hl).mono ?_
 rintro e w1 ⟨bo, co, rfl, oo, b1⟩
 obtain ⟨fo, mo, ro⟩ := oo.mine
 have HP := hidden (perform_any w1 B {x with gen := x.gen + 1} ms ds fm fd (HA.out.below b1) HF.out.1 HF.out.2 hM bo co (opsL supK ms ms.length) fo mo (fun b hb => ⟨fun e => by have := (ro b hb).1; omega, fun hm => by have h1 := (ro b hb).1; have h2 := hlm b hm; omega⟩) (fun o ho => by
  obtain ⟨i, hi, hfl, rfl⟩ := opsL_mem ho
  exact ⟨hi, hfl⟩))
 have MB := hidden (MS.out.below b1)
 clear oo mo ro b1 hlm HA MS
 go_wp2_with fail
 refine HP.out.mono ?_
 rintro e w2 hd
 rw [HR.out] at hd
 obtain ⟨he, fm2, hA2, hMv2⟩ := hd
 have MV2 := hidden (MB.out.trans hMv2)
 obtain ⟨kM, kS, kL⟩ := HK.out
 clear hMv2 HR HP HK MB
 generalize supsS ({x with gen := x.gen + 1}, ms) ms.length = st at he hA2 HMK kM kS kL
 obtain ⟨y, ns⟩ := st
 dsimp only at he hA2 kM kS kL
 have hfy := kS.2.2.2.2.2.2.2.2.2.1
 unfold EndOf at he
 cases hst : y.down
 . rw [if_neg (by simp [hst])] at he
   subst he
   have HS := hidden (syncDisks_any w2 B y ns ds fm2 fd hA2 hfy hst kM (by omega))
   rw [kL] at HS
   clear hst hA2
   go_wp2_with fail
   refine HS.out.mono ?_
   rintro e w3 ⟨he, fm3, hA3, hMv3⟩
   have HD : Hid (Did w B fm ds fd (markS (x, ms)) e w3) := by
    unfold Hid
    rw [HMK.out]
    exact ⟨he, fm3, hA3, MV2.out.trans hMv3⟩
   unfold EndOf at he
   clear hA3 hMv3
   cases hst : (syncS (y, ns) ms.length).1.down
   . rw [if_neg (by simp [hst])] at he
     subst he
     clear hst
     go_wp2
     refine bodyPost_end (v := .tuple #[]) (results_none rfl _ _ _) rfl ?_
     exact HD.out
   rw [if_pos hst] at he
   subst he
   clear hst
   go_wp2
   exact ⟨rfl, HD.out⟩
 rw [if_pos hst] at he
 subst he
 have HD : Hid (Did w B fm ds fd (markS (x, ms)) (.panicked goneC) w2) := by
  unfold Hid
  rw [HMK.out, syncS_down hst]
  exact ⟨EndOf.gone hst, fm2, hA2, MV2.out⟩
 clear hst hA2
 go_wp2
 exact ⟨rfl, HD.out⟩

theorem markDisks_any (w : World) (B : Nat) (x : ArrN) (ms : List MemD) (ds : List (Int × List Int)) (fm fd : List Nat) (h : ArrAt w B x ms ds fm fd) (ha : arrB x ms ds = true) (hdn : x.down = false) (hg : x.gen < 60000) : Calls Tryz.prog 76 #[.pointer (some ⟨B, 0, none⟩)] w (Did w B fm ds fd (markS (x, ms))) := by
 obtain ⟨fc, mk, gc0, gc1⟩ := arr_facts ha
 have hl := arr_len ha
 exact markI_any w B x ms ds fm fd h fc hdn mk (by omega) gc0 hg (sup_fit ha hg x.tail (.inl rfl))

theorem checkDisks_any (w : World) (B : Nat) (x : ArrN) (ms : List MemD) (ds : List (Int × List Int)) (fm fd : List Nat) (h : ArrAt w B x ms ds fm fd) (ha : arrB x ms ds = true) (hdn : x.down = false) (hg : x.gen < 60000) : Calls Tryz.prog 134 #[.pointer (some ⟨B, 0, none⟩)] w (Did w B fm ds fd (checkS (x, ms))) := by
 obtain ⟨fc, mk, gc0, gc1⟩ := arr_facts ha
 have hl := arr_len ha
 have HU := hidden (sup_fit ha hg x.seq (.inr rfl))
 have HC : Hid (checkS (x, ms) = if (syncS (x, ms) ms.length).1.down = true then syncS (x, ms) ms.length else markS ({(syncS (x, ms) ms.length).1 with tail := (syncS (x, ms) ms.length).1.seq}, (syncS (x, ms) ms.length).2)) := rfl
 have HK := hidden (syncS_keeps (q := (x, ms)) mk fc ms.length)
 have HS := hidden (syncDisks_any w B x ms ds fm fd h fc hdn mk (by omega))
 clear h hdn
 go_enter Tryz.func134, Tryz.ntmps134
 go_wp2_with fail
 refine HS.out.mono ?_
 rintro e w1 ⟨he, fm1, hA1, hMv1⟩
 have MV := hidden hMv1
 obtain ⟨kM, kS, kL⟩ := HK.out
 clear HS HK hMv1
 generalize syncS (x, ms) ms.length = st at he hA1 HC kM kS kL
 obtain ⟨y, ns⟩ := st
 dsimp only at he hA1 kM kS kL HC
 unfold EndOf at he
 cases hst : y.down
 . rw [if_neg (by simp [hst])] at he
   subst he
   obtain ⟨s1, s2, s3, s4, s5, s6, s7, s8, s9, s10, s11⟩ := kS
   have HV : Hid (checkS (x, ms) = markS ({y with tail := y.seq}, ns)) := by unfold Hid; rw [HC.out, if_neg (by simp [hst])]
   have HU2 : Hid (SupFit {({y with tail := y.seq} : ArrN) with gen := y.gen + 1} ns.length) := by
    intro i hi
    have := HU.out i (by omega)
    unfold supA at this ⊢
    dsimp only at this ⊢
    rw [s1, s2, s3, s4, s5, s6, s8]
    exact this
   have c6 : w1.cell? ⟨B, 6, none⟩ = some (.int .i64 y.seq) := by
    obtain ⟨bm, bd, cm, cd, X, _⟩ := hA1
    unfold arrC at X
    exact X.cells13.2.2.2.2.2.2.1
   have c7 : w1.cell? ⟨B, 7, none⟩ = some (.int .i64 y.tail) := by
    obtain ⟨bm, bd, cm, cd, X, _⟩ := hA1
    unfold arrC at X
    exact X.cells13.2.2.2.2.2.2.2.1
   have fz : ∀ j, w1.frozen? ⟨B, j, none⟩ = false := by
    obtain ⟨bm, bd, cm, cd, X, _⟩ := hA1
    exact X.frozen
   have MV2 := hidden (MV.out.trans (Moved.set (B := B) (j := 7) (fm := fm1) (w := w1) (.int .i64 y.seq)))
   have HM := hidden (markI_any _ B {y with tail := y.seq} ns ds fm1 fd (arr_tail hA1) s10 hst kM (by omega) (by dsimp only; omega) (by dsimp only; omega) HU2.out)
   clear hA1 hst HC HU HU2 s1 s2 s3 s4 s5 s6 s7 s8 s9 s10 s11
   go_wp2_with fail
   refine HM.out.mono ?_
   rintro e w3 ⟨he, fm3, hA3, hMv3⟩
   have HD : Hid (Did w B fm ds fd (checkS (x, ms)) e w3) := by
    unfold Hid
    rw [HV.out]
    exact ⟨he, fm3, hA3, MV2.out.trans hMv3⟩
   unfold EndOf at he
   clear hA3 hMv3 HM MV2
   generalize markS ({y with tail := y.seq}, ns) = st at he HV
   cases hst : st.1.down
   . rw [if_neg (by simp [hst])] at he
     subst he
     clear hst
     go_wp2
     refine bodyPost_end (v := .tuple #[]) (results_none rfl _ _ _) rfl ?_
     exact HD.out
   rw [if_pos hst] at he
   subst he
   clear hst
   go_wp2
   exact ⟨rfl, HD.out⟩
 rw [if_pos hst] at he
 subst he
 have HD : Hid (Did w B fm ds fd (checkS (x, ms)) (.panicked goneC) w1) := by
  unfold Hid
  rw [HC.out, if_pos hst]
  exact ⟨EndOf.gone hst, fm1, hA1, MV.out⟩
 clear hst hA1
 go_wp2
 exact ⟨rfl, HD.out⟩

theorem placeSpare_any (w : World) (B : Nat) (x : ArrN) (ms : List MemD) (ds : List (Int × List Int)) (fm fd : List Nat) (h : ArrAt w B x ms ds fm fd) (hk : spareK x ms ds = 0) :
 Calls Tryz.prog 89 #[.pointer (some ⟨B, 0, none⟩)] w (Did w B fm ds fd (spareA (x, ms))) := by
 obtain ⟨ha, hdn, hl, hbr, hgen⟩ := spare_zero hk
 have hlo := arr_lost ha
 have hne := lost_pos (.inl hl)
 obtain ⟨g1, g2, g3, g4⟩ := geoB_iff.1 (arr_split.1 ha).1
 have hm : x.lost.toNat < ms.length := by omega
 obtain ⟨bm, bd, cm, cd, X, hmm, hdd, hr, r1, r2⟩ := h
 have hm63 := (row_length hmm.rd).2
 obtain ⟨g, rfl⟩ := row_head hmm (by omega)
 have X0 := X
 unfold arrC at X0
 obtain ⟨k0, k1, k2, k3, k4, k5, k6, k7, k8, k9, k10, k11, k12⟩ := X0.cells13
 have zB := X.lt
 have HOK := hidden (spare_arr hk)
 have HSA : Hid (spareA (x, ms) = markS ({x with built := 0}, ms.set x.lost.toNat (spareM x.s))) := rfl
 have XH := hidden X
 have MH := hidden hmm
 have DH := hidden hdd
 have hS : w.drew.cell? ⟨B, 3, none⟩ = some (.slice (some ⟨g, 0, none⟩) ms.length cm) /\ w.drew.cell? ⟨B, 4, none⟩ = some (.int .i64 x.lost) /\ w.drew.cell? ⟨B, 1, none⟩ = some (.int .i64 x.n) /\ w.drew.cell? ⟨B, 2, none⟩ = some (.int .i64 x.s) := ⟨k3, k4, k1, k2⟩
 have i1 : 0 <= x.lost := by omega
 have i3 : x.lost < (ms.length : Int) := hlo.2
 have HDN := hidden hdn
 clear X X0 hmm hdd ha hdn hl hbr hlo hne k0 k5 k6 k7 k8 k9 k10 k11 k12
 go_enter Tryz.func89, Tryz.ntmps89
 go_wp2_with fail
 refine Upto.start (S := fun w' => w'.cell? ⟨B, 3, none⟩ = some (.slice (some ⟨g, 0, none⟩) ms.length cm) /\ w'.cell? ⟨B, 4, none⟩ = some (.int .i64 x.lost) /\ w'.cell? ⟨B, 1, none⟩ = some (.int .i64 x.n) /\ w'.cell? ⟨B, 2, none⟩ = some (.int .i64 x.s)) (k := 19) (by kernel_rfl) ?_
 refine Upto.t 0 hS ?_
 refine Upto.t 1 hS ?_
 refine Upto.t 2 hS ?_
 refine Upto.t 3 hS ?_
 refine Upto.t 4 hS ?_
 refine Upto.t 5 hS ?_
 refine Upto.t 6 hS ?_
 refine Upto.t 7 hS ?_
 refine Upto.t 8 hS ?_
 refine Upto.t 9 hS ?_
 refine Upto.t 10 hS ?_
 refine Upto.t 11 hS ?_
 refine Upto.t 12 hS ?_
 refine Upto.one (i := 13) (by kernel_rfl) rfl (fun K hK => ?_)
 go_simp
 refine (sectorsOf_any _ x.n x.s ⟨g3, g4⟩).mono ?_
 rintro e w1 ⟨rfl, b1'⟩
 have b1 : Below w.heap.size w w1 := (Below.refl w.heap.size w).drew.trans b1'
 have hS1 : w1.cell? ⟨B, 3, none⟩ = some (.slice (some ⟨g, 0, none⟩) ms.length cm) /\ w1.cell? ⟨B, 4, none⟩ = some (.int .i64 x.lost) /\ w1.cell? ⟨B, 1, none⟩ = some (.int .i64 x.n) /\ w1.cell? ⟨B, 2, none⟩ = some (.int .i64 x.s) := ⟨(b1.cell (p := ⟨B, 3, none⟩) zB).trans k3, (b1.cell (p := ⟨B, 4, none⟩) zB).trans k4, (b1.cell (p := ⟨B, 1, none⟩) zB).trans k1, (b1.cell (p := ⟨B, 2, none⟩) zB).trans k2⟩
 have z1 := b1.size
 have B1 := hidden b1
 clear b1 b1'
 go_wp2_with fail
 refine hK.out _ _ (fun _ => hS1) ?_
 clear hK K
 refine Upto.one (i := 14) (by kernel_rfl) rfl (fun K hK => ?_)
 go_simp
 refine (implMemNew_any _ (6 + x.s)).mono ?_
 rintro e w2 ⟨a0, c0, rfl, o2, b2⟩
 have b02 := Below.andThen B1.out b2
 have z2 := b2.size
 have om : (tMem 109).Own w2 w.heap.size w2.heap.size [.slice a0 (newSS (6 + x.s)).length c0, .slice none 0 0, .bool false, .slice none 0 0] (spareM x.s) := mem_own3 o2 ((nil_mine (t := tWr) (E := 109) w2).own (lo := w2.heap.size) (hi := w2.heap.size) (by simp)) ((nil_mine (t := intTy) (E := 3) w2).own (lo := w2.heap.size) (hi := w2.heap.size) (by simp)) (.inl (Nat.le_refl _)) (.inl (Nat.le_refl _)) (.inl (Nat.le_refl _)) ⟨z1, Nat.le_refl _⟩ ⟨by omega, Nat.le_refl _⟩ ⟨by omega, Nat.le_refl _⟩
 obtain ⟨fpx, mx, rx⟩ := om.mine
 obtain ⟨cOld, fz, hgm, fm9, hA9, hMv9⟩ := arr_store (m := x.lost.toNat) XH.out MH.out DH.out hr r1 r2 b02 (by omega) mx (fun b hb => (rx b hb).1)
 obtain ⟨o0, t0⟩ := cOld 0 (by omega)
 obtain ⟨o1, t1⟩ := cOld 1 (by omega)
 obtain ⟨o2', t2⟩ := cOld 2 (by omega)
 obtain ⟨o3, t3⟩ := cOld 3 (by omega)
 rw [Nat.add_zero] at t0
 have HA := hidden hA9
 have HMV := hidden hMv9
 have hS2 : w2.cell? ⟨B, 3, none⟩ = some (.slice (some ⟨g, 0, none⟩) ms.length cm) /\ w2.cell? ⟨B, 4, none⟩ = some (.int .i64 x.lost) /\ w2.cell? ⟨B, 1, none⟩ = some (.int .i64 x.n) /\ w2.cell? ⟨B, 2, none⟩ = some (.int .i64 x.s) := ⟨(b02.cell (p := ⟨B, 3, none⟩) zB).trans k3, (b02.cell (p := ⟨B, 4, none⟩) zB).trans k4, (b02.cell (p := ⟨B, 1, none⟩) zB).trans k1, (b02.cell (p := ⟨B, 2, none⟩) zB).trans k2⟩
 have gB : ¬ g = B := fun e => r1 (e ▸ hgm)
 have gB2 : ¬ B = g := fun e => gB e.symm
 unfold put4 at HA HMV
 clear k3 k4 k1 k2 o2 om b2 b02 mx rx cOld hA9 hMv9 XH MH DH hS1 B1
 go_wp2_with fail
 refine hK.out _ _ (fun _ => hS2) ?_
 clear hK K
 refine Upto.t 15 hS2 ?_
 refine Upto.one (i := 16) (by kernel_rfl) rfl (fun K hK => ?_)
 go_simp
 obtain ⟨c4, c5, c8, c11, c12, fzB⟩ := arr_cells HA.out
 have AB := hidden (arr_built0 HA.out 0)
 have hbt := (((But.setCell (w := w2) (g := g) (j := x.lost.toNat * 4) (Nat.le_refl g) (Nat.lt_succ_self g) (.slice a0 (newSS (6 + x.s)).length c0)).trans (But.setCell (j := x.lost.toNat * 4 + 1) (Nat.le_refl g) (Nat.lt_succ_self g) (.slice none 0 0))).trans (But.setCell (j := x.lost.toNat * 4 + 2) (Nat.le_refl g) (Nat.lt_succ_self g) (.bool false))).trans (But.setCell (j := x.lost.toNat * 4 + 3) (Nat.le_refl g) (Nat.lt_succ_self g) (.slice none 0 0))
 have hblk := hbt.block B (by omega) (by omega)
 have hS3 : ((((w2.setCell ⟨g, x.lost.toNat * 4, none⟩ (.slice a0 (newSS (6 + x.s)).length c0)).setCell ⟨g, x.lost.toNat * 4 + 1, none⟩ (.slice none 0 0)).setCell ⟨g, x.lost.toNat * 4 + 2, none⟩ (.bool false)).setCell ⟨g, x.lost.toNat * 4 + 3, none⟩ (.slice none 0 0)).cell? ⟨B, 3, none⟩ = some (.slice (some ⟨g, 0, none⟩) ms.length cm) /\ ((((w2.setCell ⟨g, x.lost.toNat * 4, none⟩ (.slice a0 (newSS (6 + x.s)).length c0)).setCell ⟨g, x.lost.toNat * 4 + 1, none⟩ (.slice none 0 0)).setCell ⟨g, x.lost.toNat * 4 + 2, none⟩ (.bool false)).setCell ⟨g, x.lost.toNat * 4 + 3, none⟩ (.slice none 0 0)).cell? ⟨B, 4, none⟩ = some (.int .i64 x.lost) /\ ((((w2.setCell ⟨g, x.lost.toNat * 4, none⟩ (.slice a0 (newSS (6 + x.s)).length c0)).setCell ⟨g, x.lost.toNat * 4 + 1, none⟩ (.slice none 0 0)).setCell ⟨g, x.lost.toNat * 4 + 2, none⟩ (.bool false)).setCell ⟨g, x.lost.toNat * 4 + 3, none⟩ (.slice none 0 0)).cell? ⟨B, 1, none⟩ = some (.int .i64 x.n) /\ ((((w2.setCell ⟨g, x.lost.toNat * 4, none⟩ (.slice a0 (newSS (6 + x.s)).length c0)).setCell ⟨g, x.lost.toNat * 4 + 1, none⟩ (.slice none 0 0)).setCell ⟨g, x.lost.toNat * 4 + 2, none⟩ (.bool false)).setCell ⟨g, x.lost.toNat * 4 + 3, none⟩ (.slice none 0 0)).cell? ⟨B, 2, none⟩ = some (.int .i64 x.s) := ⟨(World.cell?_of_block hblk).trans hS2.1, (World.cell?_of_block hblk).trans hS2.2.1, (World.cell?_of_block hblk).trans hS2.2.2.1, (World.cell?_of_block hblk).trans hS2.2.2.2⟩
 clear hbt hblk
 refine hK.out _ _ (fun _ => hS3) ?_
 clear hK K
 clear hS hS2 t0 t1 t2 t3 fz
 generalize (((w2.setCell ⟨g, x.lost.toNat * 4, none⟩ (.slice a0 (newSS (6 + x.s)).length c0)).setCell ⟨g, x.lost.toNat * 4 + 1, none⟩ (.slice none 0 0)).setCell ⟨g, x.lost.toNat * 4 + 2, none⟩ (.bool false)).setCell ⟨g, x.lost.toNat * 4 + 3, none⟩ (.slice none 0 0) = w3 at HA HMV AB c4 c5 c8 c11 c12 fzB hS3 ⊢
 refine Upto.one (i := 17) (by kernel_rfl) rfl (fun K hK => ?_)
 go_simp
 refine hK.out _ _ (fun _ => hS3) ?_
 clear hK K
 refine Upto.t 18 hS3 ?_
 refine Upto.one (i := 19) (by kernel_rfl) rfl (fun K hK => ?_)
 go_simp
 refine hK.out _ _ (fun h => absurd rfl h) ?_
 clear hK K
 refine Upto.done (by kernel_rfl) ?_ _
 have MV4 := hidden (HMV.out.trans (Moved.set (B := B) (j := 5) (fm := fm9) (w := w3) (.int .i64 0)))
 generalize w3.setCell ⟨B, 5, none⟩ (.int .i64 0) = w4 at AB MV4 ⊢
 generalize ms.set x.lost.toNat (spareM x.s) = ns at AB HSA HOK
 have HMK := hidden (markDisks_any w4 B {x with built := 0} ns ds fm9 fd AB.out HOK.out HDN.out (by dsimp only; omega))
 clear HA HMV AB c4 c5 c8 c11 c12 fzB hS3
 generalize markS ({x with built := 0}, ns) = st at HMK HSA
 go_wp2_with fail
 refine HMK.out.mono ?_
 rintro e w5 ⟨he, fm5, A5, M5⟩
 have MV5 := hidden (MV4.out.trans M5)
 have HA5 := hidden A5
 clear HMK M5 A5 MV4
 unfold EndOf at he
 cases hd : st.1.down
 . rw [if_neg (by simp [hd])] at he
   subst he
   have HE := hidden (EndOf.fine hd)
   clear hd
   go_wp2
   refine bodyPost_end (v := .tuple #[]) (results_none rfl _ _ _) rfl ?_
   exact ⟨by rw [HSA.out]; exact HE.out, fm5, by rw [HSA.out]; exact HA5.out, MV5.out⟩
 rw [if_pos hd] at he
 subst he
 have HE := hidden (EndOf.gone hd)
 clear hd
 go_wp2
 exact ⟨rfl, by rw [HSA.out]; exact HE.out, fm5, by rw [HSA.out]; exact HA5.out, MV5.out⟩

theorem spare_any (w : World) (B : Nat) (q : ArrN × List MemD) (ds : List (Int × List Int)) (fm fd : List Nat) (h : BldAt w B q.1 q.2 ds fm fd) (hw : wtArr q.2 ds <= 2097152) :
 Calls Tryz.prog 49 #[.pointer (some ⟨B, 0, none⟩)] w (Stp w B fm fd ds (spareT ds q).1 (spareT ds q).2) := by
 obtain ⟨x, ms⟩ := q
 dsimp only at h hw
 have HB := hidden h
 obtain ⟨bm, bd, cm, cd, X, hm, hd, hr, r1, r2⟩ := h
 have X0 := X
 unfold arrC at X0
 obtain ⟨k0, k1, k2, k3, k4, k5, k6, k7, k8, k9, k10, k11, k12⟩ := X0.cells13
 have HM := hidden hm.rd
 have HD := hidden hd.rd
 clear X X0 hm hd hr r1 r2
 go_enter Tryz.func49, Tryz.ntmps49
 go_wp2_with fail
 refine (spareCode_any _ _ _ _ x _ _ _ _ _ _ ms ds HM.out HD.out hw).mono ?_
 rintro e w1 ⟨rfl, b1⟩
 have HB1 := hidden (HB.out.turned b1)
 have HBE := hidden b1
 have HT := hidden (turn_any w1 B x ms ds fm fd HB1.out hw (spareK x ms ds) 89 (spareA (x, ms)) (fun B => enters_of Tryz.func89 (by kernel_rfl) (by kernel_rfl) _) (fun hk w' B' fm' fd' _ _ h' _ _ => by simpa using placeSpare_any w' B' x ms ds fm' fd' h' hk))
 clear k0 k1 k2 k3 k4 k5 k6 k7 k8 k9 k10 k11 k12 HM HD HB HB1 b1
 go_wp2_with fail
 refine HT.out.mono ?_
 intro e w2 hs
 have HS := hidden (Stp.from hs HBE.out)
 obtain ⟨he, _⟩ := hs
 subst he
 clear HT
 go_wp2
 go_ret
 exact HS.out

def DiskV (w : World) (E : TypeId) (x : ArrN) (ms : List MemD) (j : Nat) (v : Value) : Prop :=
 ∃ (a0 a1 a3 : Option Addr) (c0 c1 c3 : Nat) (ss : List (List Int)) (cs : List (Int × List Int)) (f : Bool) (bs : List Int), ms[j]? = some (ss, cs, f, bs) /\ tIntSS.Rd w [.slice a0 ss.length c0] ss /\ (tWrS E).Rd w [.slice a1 cs.length c1] cs /\ tIntS.Rd w [.slice a3 bs.length c3] bs /\
  ((f = true /\ v = .iface 161 (.agg #[])) ∨ (f = false /\ (j : Int) = x.lost /\ v = .iface 165 (.agg #[.slice a0 ss.length c0, .slice a1 cs.length c1, .bool false, .slice a3 bs.length c3, .int .i64 x.built])) ∨ (f = false /\ ¬ (j : Int) = x.lost /\ v = .iface 167 (.agg #[.slice a0 ss.length c0, .slice a1 cs.length c1, .bool false, .slice a3 bs.length c3])))

theorem diskAt_any (w : World) (E F : TypeId) (x : ArrN) (am ad : Option Addr) (nm cm nd cd : Nat) (ms : List MemD) (j : Nat) (h0 : (tMemS E F).Rd w [.slice am nm cm] ms) (hw : wtMemS ms <= 2097152) (hj : j < nm) :
 Calls Tryz.prog 156 #[.agg #[.int .i64 x.id, .int .i64 x.n, .int .i64 x.s, .slice am nm cm, .int .i64 x.lost, .int .i64 x.built, .int .i64 x.seq, .int .i64 x.tail, .int .i64 x.gen, .slice ad nd cd, .int .i64 x.fuse, .bool x.down, .bool x.broken], .int .i64 (j : Int)] w fun e w' => ∃ v, e = .returned v /\ DiskV w' E x ms j v /\ Below w.heap.size w w' := by
 obtain ⟨hl, hc, hm⟩ := row_length h0
 have hnm : nm <= 2097152 := by unfold wtMemS at hw; omega
 have hA := new_below w (.cells #[.int .i64 x.id, .int .i64 x.n, .int .i64 x.s, .slice am nm cm, .int .i64 x.lost, .int .i64 x.built, .int .i64 x.seq, .int .i64 x.tail, .int .i64 x.gen, .slice ad nd cd, .int .i64 x.fuse, .bool x.down, .bool x.broken] 33)
 have X := Box.new w 33 #[.int .i64 x.id, .int .i64 x.n, .int .i64 x.s, .slice am nm cm, .int .i64 x.lost, .int .i64 x.built, .int .i64 x.seq, .int .i64 x.tail, .int .i64 x.gen, .slice ad nd cd, .int .i64 x.fuse, .bool x.down, .bool x.broken]
 obtain ⟨k0, k1, k2, k3, k4, k5, k6, k7, k8, k9, k10, k11, k12⟩ := X.cells13
 have h1 := h0.below hA
 have i1 : (0 : Int) <= (j : Int) := by omega
 have i2 : (j : Int) < (nm : Int) := by omega
 rcases quads_at rfl h1 with h0' | ⟨b, off, rfl, hbl, hcs⟩
 . omega
 have hdj : ms[j]? = some (ms[j]'(by omega)) := List.getElem?_eq_getElem (by omega)
 generalize ms[j]'(by omega) = d at hdj
 obtain ⟨v0, v1, v2, v3, hv0, hv1, hv2, hv3, hrv⟩ := hcs j d hdj
 obtain ⟨a0, c0, a1, c1, a3, c3, ss, cs, f, bs, rfl, rfl, rfl, rfl, rfl, r0, r1, r3⟩ := mem_at hrv
 clear hcs hrv h1 h0
 have HR := hidden (And.intro hdj (And.intro r0 (And.intro r1 r3)))
 clear hdj r0 r1 r3
 cases f
 . by_cases hjl : (j : Int) = x.lost
   . have e1 : ((j : Int) == x.lost) = true := by simpa using hjl
     have HJ := hidden hjl
     clear hjl
     go_enter Tryz.func156, Tryz.ntmps156
     go_wp2
     go_quiet (fail)
     go_wp2
     refine bodyPost_ret (v := .iface 165 (.agg #[.slice a0 ss.length c0, .slice a1 cs.length c1, .bool false, .slice a3 bs.length c3, .int .i64 x.built])) (by simp [results, Tryz.results156, go_sem]) rfl ?_
     exact ⟨_, rfl, ⟨_, _, _, _, _, _, ss, cs, false, bs, HR.out.1, HR.out.2.1.below (below_drewN (Below.refl _ _) _), HR.out.2.2.1.below (below_drewN (Below.refl _ _) _), HR.out.2.2.2.below (below_drewN (Below.refl _ _) _), .inr (.inl ⟨rfl, HJ.out, rfl⟩)⟩, below_drewN hA _⟩
   have e1 : ((j : Int) == x.lost) = false := by simpa using hjl
   have HJ := hidden hjl
   clear hjl
   go_enter Tryz.func156, Tryz.ntmps156
   go_wp2
   refine bodyPost_ret (v := .iface 167 (.agg #[.slice a0 ss.length c0, .slice a1 cs.length c1, .bool false, .slice a3 bs.length c3])) (by simp [results, Tryz.results156, go_sem]) rfl ?_
   exact ⟨_, rfl, ⟨_, _, _, _, _, _, ss, cs, false, bs, HR.out.1, HR.out.2.1, HR.out.2.2.1, HR.out.2.2.2, .inr (.inr ⟨rfl, HJ.out, rfl⟩)⟩, hA⟩
 go_enter Tryz.func156, Tryz.ntmps156
 go_wp2
 refine bodyPost_ret (v := .iface 161 (.agg #[])) (by simp [results, Tryz.results156, go_sem]) rfl ?_
 exact ⟨_, rfl, ⟨_, _, _, _, _, _, ss, cs, true, bs, HR.out.1, HR.out.2.1, HR.out.2.2.1, HR.out.2.2.2, .inl ⟨rfl, rfl⟩⟩, hA⟩

theorem is_sound (w : World) (v0 v1 v2 v3 : Value) : Sem.run Tryz.prog (Instr.typeAssert (.iface 167 (.agg #[v0, v1, v2, v3])) 154 167 true) w = .ok (.tuple #[.agg #[v0, v1, v2, v3], .bool true]) w := by kernel_rfl
theorem lost_sound (w : World) (v : Value) : Sem.run Tryz.prog (Instr.typeAssert (.iface 165 v) 154 167 true) w = .ok (.tuple #[.agg #[.slice none 0 0, .slice none 0 0, .bool false, .slice none 0 0], .bool false]) w := by kernel_rfl
theorem is_lost (w : World) (v0 v1 v2 v3 v4 : Value) : Sem.run Tryz.prog (Instr.typeAssert (.iface 165 (.agg #[v0, v1, v2, v3, v4])) 154 165 true) w = .ok (.tuple #[.agg #[v0, v1, v2, v3, v4], .bool true]) w := by kernel_rfl
theorem bears_sound (w : World) (a0 a1 a3 : Option Addr) (n0 c0 n1 c1 n3 c3 : Nat) (f : Bool) (s : Int) : Calls Tryz.prog 166 #[.iface 167 (.agg #[.slice a0 n0 c0, .slice a1 n1 c1, .bool f, .slice a3 n3 c3]), .int .i64 s] w fun e w' => e = .returned (.bool true) /\ Below w.heap.size w w' := by
 have hA := new_below w (.cells #[.slice a0 n0 c0, .slice a1 n1 c1, .bool f, .slice a3 n3 c3] 167)
 have s1 := is_sound w (.slice a0 n0 c0) (.slice a1 n1 c1) (.bool f) (.slice a3 n3 c3)
 go_enter Tryz.func166, Tryz.ntmps166
 go_wp2
 go_ret
 exact ⟨rfl, hA⟩
theorem bears_lost (w : World) (a0 a1 a3 : Option Addr) (n0 c0 n1 c1 n3 c3 : Nat) (f : Bool) (b s : Int) : Calls Tryz.prog 166 #[.iface 165 (.agg #[.slice a0 n0 c0, .slice a1 n1 c1, .bool f, .slice a3 n3 c3, .int .i64 b]), .int .i64 s] w fun e w' => e = .returned (.bool (decide (s < b))) /\ Below w.heap.size w w' := by
 have hA := new_below w (.cells #[.slice a0 n0 c0, .slice a1 n1 c1, .bool f, .slice a3 n3 c3, .int .i64 b] 165)
 have s1 := lost_sound w (.agg #[.slice a0 n0 c0, .slice a1 n1 c1, .bool f, .slice a3 n3 c3, .int .i64 b])
 have s2 := is_lost w (.slice a0 n0 c0) (.slice a1 n1 c1) (.bool f) (.slice a3 n3 c3) (.int .i64 b)
 go_enter Tryz.func166, Tryz.ntmps166
 go_wp2
 go_ret
 exact ⟨rfl, hA⟩

theorem slicesIndex_any (w : World) (a : Option Addr) (len cap : Nat) (zs : List Int) (n : Int) (hz : zs.length = len) (hr : Reads .i64 w a zs) (hlen : len <= 2097152) :
 Calls Tryz.prog 200 #[.slice a len cap, .int .i64 n] w fun e w' => ∃ r : Int, e = .returned (.int .i64 r) /\ decide (0 <= r) = inL zs n /\ Same w w' := by
 go_enter Tryz.func200, Tryz.ntmps200
 go_wp2
 go_loop [8] (fun i => ∃ j : Nat, j <= len /\ i = .int .i64 j /\ inL (zs.take j) n = false) (fun i => len - (intOf i).toNat)
 case atStart => exact ⟨0, Nat.zero_le _, rfl, rfl⟩
 obtain ⟨j, hj, rfl, ht⟩ := hrel
 by_cases hlt : j < len
 . rcases hr.cases with h0 | ⟨b, off, rfl, hbl, hc⟩
   . omega
   have hc1 := hc j (by omega)
   have hd := inL_step (zs := zs) (n := n) (j := j) (by omega) rfl
   generalize zs.getD j 0 = x at hc1 hd
   have HT := hidden ht
   clear hc ht
   by_cases hx : x = n
   . have HD := hidden (hd.1 hx)
     subst hx
     clear hd
     go_wp2
     go_ret
     exact ⟨_, rfl, by rw [HD.out]; simp, Same.refl _⟩
   have HD := hidden (hd.2 hx HT.out)
   have hx' : ¬ n = x := fun e => hx e.symm
   clear hd
   go_wp2
   go_round
   case rel => exact ⟨j + 1, by omega, by go_num, HD.out⟩
   case measure => simp [intOf]; omega
 go_wp2
 go_ret
 have e : j = len := by omega
 subst e
 rw [List.take_of_length_le (by omega)] at ht
 exact ⟨_, rfl, by rw [ht]; rfl, Same.refl _⟩

theorem slicesContains_any (w : World) (a : Option Addr) (len cap : Nat) (zs : List Int) (n : Int) (hz : zs.length = len) (hr : Reads .i64 w a zs) (hlen : len <= 2097152) :
 Calls Tryz.prog 199 #[.slice a len cap, .int .i64 n] w fun e w' => e = .returned (.bool (inL zs n)) /\ Same w w' := by
 go_enter Tryz.func199, Tryz.ntmps199
 go_wp2_with fail
 refine (slicesIndex_any _ _ _ _ zs n hz hr hlen).mono ?_
 rintro e w1 ⟨r, rfl, hr1, hs1⟩
 go_wp2
 go_ret
 exact ⟨ret_bool (by rw [← hr1]), hs1⟩

theorem implReadSec_any (w : World) (E : TypeId) (a0 a1 a3 : Option Addr) (n0 c0 n1 c1 n3 c3 : Nat) (ss : List (List Int)) (cs : List (Int × List Int)) (f : Bool) (bs : List Int) (n : Int) (h0 : tIntSS.Rd w [.slice a0 n0 c0] ss) (h1 : (tWrS E).Rd w [.slice a1 n1 c1] cs) (h3 : tIntS.Rd w [.slice a3 n3 c3] bs) (hw : wtMem (ss, cs, f, bs) <= 2097152) :
 Calls Tryz.prog 198 #[.agg #[.slice a0 n0 c0, .slice a1 n1 c1, .bool f, .slice a3 n3 c3], .int .i64 n] w fun e w' => ∃ a' l c', e = .returned (.tuple #[.slice a' l c', .bool (readOk ss cs f bs n)]) /\ tIntS.Own w' w.heap.size w'.heap.size [.slice a' l c'] (readD ss cs f bs n) /\ Below w.heap.size w w' := by
 obtain ⟨hl0, _, hm0⟩ := row_length h0
 obtain ⟨hl1, _, hm1⟩ := row_length h1
 obtain ⟨hl3, _, hm3⟩ := row_length h3
 have hw3 : n3 <= 2097152 := by unfold wtMem at hw; simp only at hw; omega
 have hw0 : wtIntSS ss <= 2097152 := by unfold wtMem at hw; simp only at hw; omega
 have hw1 : wtWrS cs <= 2097152 := by unfold wtMem at hw; simp only at hw; omega
 have hn0 : n0 <= 2097152 := by unfold wtIntSS at hw0; omega
 have hn1 : n1 <= 2097152 := by unfold wtWrS at hw1; omega
 have hA : Below w.heap.size w (w.alloc (.cells #[.slice a0 n0 c0, .slice a1 n1 c1, .bool f, .slice a3 n3 c3] 51)) := (Below.refl _ _).alloc (Nat.le_refl _) _
 have xm := Box.new w 51 #[.slice a0 n0 c0, .slice a1 n1 c1, .bool f, .slice a3 n3 c3]
 have g0 := h0.below hA
 have g1 := h1.below hA
 have g3 := h3.below hA
 obtain ⟨q0, q1, q2, q3⟩ := xm.cells4
 have zm := xm.lt
 have fin : ∀ w1, Below w.heap.size w w1 -> tIntS.Own (w1.alloc (.cells #[] 3)) w.heap.size (w1.alloc (.cells #[] 3)).heap.size [.slice (some ⟨w1.heap.size, 0, none⟩) 0 0] [] /\ Below w.heap.size w (w1.alloc (.cells #[] 3)) := by
  intro w1 hb
  have hs := hb.size
  exact ⟨(own_ints (Owns.lit .i64 3 w1 [] 0 #[] rfl rfl (by unfold maxLen; omega))).widen hs (Nat.le_refl _), hb.alloc hb.size _⟩
 by_cases hM : memB ss cs bs = true
 . by_cases hf : f = true
   . subst hf
     have hro : readOk ss cs true bs n = false := by unfold readOk; rw [hM]; rfl
     have hrd : readD ss cs true bs n = [] := by unfold readD; rw [hro]; rfl
     rw [hro, hrd]
     clear hro hrd
     go_enter Tryz.func198, Tryz.ntmps198
     go_wp2_with fail
     generalize hW : w.alloc (.cells #[.slice a0 n0 c0, .slice a1 n1 c1, .bool true, .slice a3 n3 c3] 51) = W at hA g0 g1 g3 q0 q1 q2 q3 zm ⊢
     clear hW xm
     refine (implMemOk_any _ E _ _ _ _ _ _ _ _ _ ss cs true bs g0 g1 g3 hw).mono ?_
     rintro e w1 ⟨rfl, b1⟩
     have r0 := (b1.cell (p := ⟨w.heap.size, 0, none⟩) zm).trans q0
     have r1 := (b1.cell (p := ⟨w.heap.size, 1, none⟩) zm).trans q1
     have r2 := (b1.cell (p := ⟨w.heap.size, 2, none⟩) zm).trans q2
     have r3 := (b1.cell (p := ⟨w.heap.size, 3, none⟩) zm).trans q3
     have B1 := Below.andThen hA b1
     have z1 := Nat.lt_of_lt_of_le zm b1.size
     clear q0 q1 q2 q3
     go_wp2
     go_ret2
     exact ⟨_, _, _, rfl, (fin _ B1).1, (fin _ B1).2⟩
   have hf : f = false := by simpa using hf
   subst hf
   by_cases hI : inB n 0 ((n0 : Int) - 1) = true
   . by_cases hB : inL bs n = true
     . have hro : readOk ss cs false bs n = false := by unfold readOk; rw [hM, hl0, hI, hB]; rfl
       have hrd : readD ss cs false bs n = [] := by unfold readD; rw [hro]; rfl
       rw [hro, hrd]
       clear hro hrd
       go_enter Tryz.func198, Tryz.ntmps198
       go_wp2_with fail
       generalize hW : w.alloc (.cells #[.slice a0 n0 c0, .slice a1 n1 c1, .bool false, .slice a3 n3 c3] 51) = W at hA g0 g1 g3 q0 q1 q2 q3 zm ⊢
       clear hW xm
       refine (implMemOk_any _ E _ _ _ _ _ _ _ _ _ ss cs false bs g0 g1 g3 hw).mono ?_
       rintro e w1 ⟨rfl, b1⟩
       have r0 := (b1.cell (p := ⟨w.heap.size, 0, none⟩) zm).trans q0
       have r1 := (b1.cell (p := ⟨w.heap.size, 1, none⟩) zm).trans q1
       have r2 := (b1.cell (p := ⟨w.heap.size, 2, none⟩) zm).trans q2
       have r3 := (b1.cell (p := ⟨w.heap.size, 3, none⟩) zm).trans q3
       have B1 := Below.andThen hA b1
       have z1 := Nat.lt_of_lt_of_le zm b1.size
       clear q0 q1 q2 q3
       go_wp2_with fail
       refine (hasSec_any _ _ _ _ _ _ _ _).mono ?_
       rintro e w2 ⟨rfl, b2⟩
       have t0 := (b2.cell (p := ⟨w.heap.size, 0, none⟩) z1).trans r0
       have t1 := (b2.cell (p := ⟨w.heap.size, 1, none⟩) z1).trans r1
       have t3 := (b2.cell (p := ⟨w.heap.size, 3, none⟩) z1).trans r3
       have B2 := Below.andThen B1 b2
       have z2 := Nat.lt_of_lt_of_le z1 b2.size
       have k3 := g3.below (Below.andThen b1 b2)
       clear r0 r1 r2 r3
       go_wp2_with fail
       refine (slicesContains_any _ _ _ _ bs _ hl3 (ints_rd k3).1 hw3).mono ?_
       rintro e w3 ⟨rfl, s3⟩
       have B3 := Below.andSame B2 s3
       go_wp2
       go_ret2
       exact ⟨_, _, _, rfl, (fin _ B3).1, (fin _ B3).2⟩
     have hB : inL bs n = false := by simpa using hB
     have hro : readOk ss cs false bs n = true := by unfold readOk; rw [hM, hl0, hI, hB]; rfl
     have hrd : readD ss cs false bs n = (lastW cs n).getD (secAt ss n) := by unfold readD; rw [hro]; rfl
     rw [hro, hrd]
     clear hro hrd
     have hI' : 0 <= n /\ n <= (n0 : Int) - 1 := by unfold inB at hI; simpa using hI
     obtain ⟨k, rfl⟩ : ∃ k : Nat, n = (k : Int) := ⟨n.toNat, by omega⟩
     have hk : k < n0 := by omega
     go_enter Tryz.func198, Tryz.ntmps198
     go_wp2_with fail
     generalize hW : w.alloc (.cells #[.slice a0 n0 c0, .slice a1 n1 c1, .bool false, .slice a3 n3 c3] 51) = W at hA g0 g1 g3 q0 q1 q2 q3 zm ⊢
     clear hW xm
     refine (implMemOk_any _ E _ _ _ _ _ _ _ _ _ ss cs false bs g0 g1 g3 hw).mono ?_
     rintro e w1 ⟨rfl, b1⟩
     have r0 := (b1.cell (p := ⟨w.heap.size, 0, none⟩) zm).trans q0
     have r1 := (b1.cell (p := ⟨w.heap.size, 1, none⟩) zm).trans q1
     have r2 := (b1.cell (p := ⟨w.heap.size, 2, none⟩) zm).trans q2
     have r3 := (b1.cell (p := ⟨w.heap.size, 3, none⟩) zm).trans q3
     have B1 := Below.andThen hA b1
     have z1 := Nat.lt_of_lt_of_le zm b1.size
     clear q0 q1 q2 q3
     go_wp2_with fail
     refine (hasSec_any _ _ _ _ _ _ _ _).mono ?_
     rintro e w2 ⟨rfl, b2⟩
     have t0 := (b2.cell (p := ⟨w.heap.size, 0, none⟩) z1).trans r0
     have t1 := (b2.cell (p := ⟨w.heap.size, 1, none⟩) z1).trans r1
     have t3 := (b2.cell (p := ⟨w.heap.size, 3, none⟩) z1).trans r3
     have B2 := Below.andThen B1 b2
     have z2 := Nat.lt_of_lt_of_le z1 b2.size
     have k3 := g3.below (Below.andThen b1 b2)
     clear r0 r1 r2 r3
     go_wp2_with fail
     refine (slicesContains_any _ _ _ _ bs _ hl3 (ints_rd k3).1 hw3).mono ?_
     rintro e w3 ⟨rfl, s3⟩
     have B3 := Below.andSame B2 s3
     have m0 := (s3.cell _).trans t0
     have m1 := (s3.cell _).trans t1
     have b3 := Below.andSame (Below.andThen b1 b2) s3
     have y1 := g1.below b3
     rcases rows_at rfl g0 with h0' | ⟨b, off, rfl, hbl, hcs⟩
     . omega
     have hdj : ss[k]? = some (ss[k]'(by omega)) := List.getElem?_eq_getElem (by omega)
     generalize ss[k]'(by omega) = x at hdj
     have hil := inner_le hdj
     obtain ⟨v, hv, hrv⟩ := hcs k x hdj
     obtain ⟨av, cv, rfl⟩ := row_shape hrv
     have mv := (b3.cell (p := ⟨b, off + k, none⟩) hbl).trans hv
     have hrx := hrv.below b3
     have hgx : secAt ss (k : Int) = x := by unfold secAt; rw [Int.toNat_natCast, List.getD_eq_getElem?_getD, hdj]; rfl
     have HGX := hidden hgx
     have HX := hidden hrx
     have HB3 := hidden B3
     have i1 : (0 : Int) <= (k : Int) := by omega
     have i2 : (k : Int) < (n0 : Int) := by omega
     have zb3 : b < w3.heap.size := Nat.lt_of_lt_of_le hbl b3.size
     have z3 : w.heap.size < w3.heap.size := Nat.lt_of_lt_of_le zm b3.size
     have hwr := mem_writes hM
     have hk20 := mem_secs hM
     clear hcs hdj hv hrv hgx hrx B3 b3 t0 t1 t3 g0 g1 g3 k3 B1 B2 b1 b2 s3 hA fin hB hI hI' hM
     go_wp2_with fail
     refine (newest_any _ E _ _ _ cs y1 hn1 hwr).mono ?_
     rintro e w4 ⟨rfl, b4, D, hown, hL⟩
     have n0' := (b4.cell (p := ⟨w.heap.size, 0, none⟩) z3).trans m0
     have nv := (b4.cell (p := ⟨b, off + k, none⟩) zb3).trans mv
     have HB4 := hidden (Below.andThen HB3.out b4)
     have HX4 := hidden (HX.out.below b4)
     have HOW := hidden hown
     have HL := hidden hL
     have HKEY := hidden (key_int (q := (k : Int)) (by omega) (by omega))
     have B4L := hidden b4
     clear m0 m1 mv b4 hown hL y1 HB3 HX
     cases hlw : lastW cs (k : Int) with
     | none =>
      have HZ : Hid ((lastW cs (k : Int)).getD (secAt ss (k : Int)) = x) := by unfold Hid; rw [hlw, HGX.out]; rfl
      have HLW := hidden hlw
      clear hlw
      have hX : Below w4.heap.size w4 (w4.alloc (.cells #[.int .i64 0, .slice none 0 0] 109)) := (Below.refl _ _).alloc (Nat.le_refl _) _
      have z4 := HB4.out.size
      have z34 := B4L.out.size
      have p0 := (hX.cell (p := ⟨w.heap.size, 0, none⟩) (by simp only; omega)).trans n0'
      have pv := (hX.cell (p := ⟨b, off + k, none⟩) (by simp only; omega)).trans nv
      have HX5 := hidden (HX4.out.below hX)
      have HB5 := hidden (Below.andThen HB4.out hX)
      clear hX
      go_wp2_with (at_lookup; refine look_none rfl _ _ rfl w3.heap.size n1 D w3 cs (k : Int) rfl HOW.out rfl HKEY.out HL.out HLW.out ?_)
      refine (copyWords_any _ _ _ _ x HX5.out (by omega)).mono ?_
      rintro e w5 ⟨a5, c5, rfl, o5, b5⟩
      have hsz := HB5.out.size
      go_wp2
      go_ret2
      exact ⟨_, _, _, rfl, by rw [HZ.out]; exact o5.widen hsz (Nat.le_refl _), Below.andThen HB5.out b5⟩
     | some zs =>
      have HZ : Hid ((lastW cs (k : Int)).getD (secAt ss (k : Int)) = zs) := by unfold Hid; rw [hlw]; rfl
      have HLW := hidden hlw
      have hzl : zs.length <= 2097152 := lastW_le hw1 hlw
      clear hlw
      go_wp2_with (at_lookup; refine look_some rfl _ _ rfl w3.heap.size n1 D w3 cs (k : Int) zs rfl HOW.out rfl HKEY.out HL.out HLW.out ?_; intro a9 c9 h9; have H9 := hidden (h9.below B4L.out); clear h9)
      have hX : Below w4.heap.size w4 (w4.alloc (.cells #[.int .i64 (k : Int), .slice a9 zs.length c9] 109)) := (Below.refl _ _).alloc (Nat.le_refl _) _
      have HB5 := hidden (Below.andThen HB4.out hX)
      refine (copyWords_any _ _ _ _ zs (H9.out.below hX) (by omega)).mono ?_
      rintro e w5 ⟨a5, c5, rfl, o5, b5⟩
      have hsz := HB5.out.size
      go_wp2
      go_ret2
      exact ⟨_, _, _, rfl, by rw [HZ.out]; exact o5.widen hsz (Nat.le_refl _), Below.andThen HB5.out b5⟩
   have hI : inB n 0 ((n0 : Int) - 1) = false := by simpa using hI
   have hro : readOk ss cs false bs n = false := by unfold readOk; rw [hM, hl0, hI]; rfl
   have hrd : readD ss cs false bs n = [] := by unfold readD; rw [hro]; rfl
   rw [hro, hrd]
   clear hro hrd
   go_enter Tryz.func198, Tryz.ntmps198
   go_wp2_with fail
   generalize hW : w.alloc (.cells #[.slice a0 n0 c0, .slice a1 n1 c1, .bool false, .slice a3 n3 c3] 51) = W at hA g0 g1 g3 q0 q1 q2 q3 zm ⊢
   clear hW xm
   refine (implMemOk_any _ E _ _ _ _ _ _ _ _ _ ss cs false bs g0 g1 g3 hw).mono ?_
   rintro e w1 ⟨rfl, b1⟩
   have r0 := (b1.cell (p := ⟨w.heap.size, 0, none⟩) zm).trans q0
   have r1 := (b1.cell (p := ⟨w.heap.size, 1, none⟩) zm).trans q1
   have r2 := (b1.cell (p := ⟨w.heap.size, 2, none⟩) zm).trans q2
   have r3 := (b1.cell (p := ⟨w.heap.size, 3, none⟩) zm).trans q3
   have B1 := Below.andThen hA b1
   have z1 := Nat.lt_of_lt_of_le zm b1.size
   clear q0 q1 q2 q3
   go_wp2_with fail
   refine (hasSec_any _ _ _ _ _ _ _ _).mono ?_
   rintro e w2 ⟨rfl, b2⟩
   have t0 := (b2.cell (p := ⟨w.heap.size, 0, none⟩) z1).trans r0
   have t1 := (b2.cell (p := ⟨w.heap.size, 1, none⟩) z1).trans r1
   have t3 := (b2.cell (p := ⟨w.heap.size, 3, none⟩) z1).trans r3
   have B2 := Below.andThen B1 b2
   have z2 := Nat.lt_of_lt_of_le z1 b2.size
   have k3 := g3.below (Below.andThen b1 b2)
   clear r0 r1 r2 r3
   go_wp2
   go_ret2
   exact ⟨_, _, _, rfl, (fin _ B2).1, (fin _ B2).2⟩
 have hM : memB ss cs bs = false := by simpa using hM
 have hro : readOk ss cs f bs n = false := by unfold readOk; rw [hM]; rfl
 have hrd : readD ss cs f bs n = [] := by unfold readD; rw [hro]; rfl
 rw [hro, hrd]
 clear hro hrd
 go_enter Tryz.func198, Tryz.ntmps198
 go_wp2_with fail
 generalize hW : w.alloc (.cells #[.slice a0 n0 c0, .slice a1 n1 c1, .bool f, .slice a3 n3 c3] 51) = W at hA g0 g1 g3 q0 q1 q2 q3 zm ⊢
 clear hW xm
 refine (implMemOk_any _ E _ _ _ _ _ _ _ _ _ ss cs f bs g0 g1 g3 hw).mono ?_
 rintro e w1 ⟨rfl, b1⟩
 have r0 := (b1.cell (p := ⟨w.heap.size, 0, none⟩) zm).trans q0
 have r1 := (b1.cell (p := ⟨w.heap.size, 1, none⟩) zm).trans q1
 have r2 := (b1.cell (p := ⟨w.heap.size, 2, none⟩) zm).trans q2
 have r3 := (b1.cell (p := ⟨w.heap.size, 3, none⟩) zm).trans q3
 have B1 := Below.andThen hA b1
 have z1 := Nat.lt_of_lt_of_le zm b1.size
 clear q0 q1 q2 q3
 go_wp2
 go_ret2
 exact ⟨_, _, _, rfl, (fin _ B1).1, (fin _ B1).2⟩

end Go.Proofs.YtechckninoilhaaGreat
