/-
 The walk of the specification's l7Data: a stripe's words are written where they are to be. Conditions: the power goes within 1000 operations, or stays; every disk is right, and there are N; there is such a stripe; the words lie in memory apart from the array.
-/
import Derived.Test.YtgjomldcnjjpaaaGreatRowArrsSq33
import Derived.Test.YtgjomldcnjjpaaaGreatRowArrsSq16
import Derived.Test.YtgjomldcnjjpaaaGreatRowArrsSq20
import Derived.Test.YtgjomldcnjjpaaaGreatRowArrsSq29
import Derived.Test.YtgjomldcnjjpaaaGreatRowArrsSq1
import Derived.Test.YtgjomldcnjjpaaaGreatRowArrsSq24
import Derived.Test.YtgjomldcnjjpaaaGreatRowArrsSq14
import Derived.Test.YtgjomldcnjjpaaaGreatRowArrsSq3
import Derived.Test.YtgjomldcnjjpaaaGreatRowArrsSq11
import Derived.Test.YtgjomldcnjjpaaaGreatRowArrsSq4

set_option maxRecDepth 100000
set_option maxHeartbeats 8000000
set_option linter.unusedSimpArgs false

namespace Go.Proofs.YtgjomldcnjjpaaaGreat
open Go.RowKit

def wt (w w':World) (e:Ending) (q:aq×List ai) (ds:List (Int×List Int)):Prop:=
 ∃(bm bd:Option Addr) (cm cd:Nat),e=.returned (.agg (bH q.1 (.slice bm q.2.length cm) (.slice bd ds.length cd)))/\fA w' w.heap.size w'.heap.size bm bd q.2.length cm ds.length cd q.2 ds/\Below w.heap.size w w'
theorem aT.belowN {B N:Nat} {f1 f2:List Nat} {w1 w2:World} (h:aT B f1 w1 f2 w2) (hB:N<=B) (hf:∀b∈f1,N<=b) (hN:N<=w1.heap.size):Below N w1 w2:=
 ⟨h.1.os,h.1.tape,h.1.output,h.1.size,fun k hk=>h.1.block k (by omega) (fun hm=>by
  rcases List.mem_cons.1 hm with e|hm
  . omega
  have:=hf k hm;omega)⟩
theorem qa {x:aq} {ms:List ai} {ds:List (Int×List Int)} (h:bf x ms ds=true):x.xY<=1000/\dh ms/\0<=x.gen/\x.gen<=60000:=by
 unfold bf cI ez at h;simp only [Bool.and_eq_true,aG] at h
 obtain ⟨_,_,⟨hm,_⟩,_,_,_,_,_,hg,hf⟩:=h;refine ⟨hf.2,fun i d hd=>?_,hg.1,hg.2⟩
 have:=dR.1 hm i d hd;unfold dH at this;simp only [Bool.and_eq_true] at this
 exact this.1
theorem xL {w w4:World} {R lo:Nat} {y:aq} {ns:List ai} {ds:List (Int×List Int)} {vm vd:Option Addr} {cvm cvd:Nat} {fm fd:List Nat} {e:Ending} {T:TypeId} {cs:Array Value} (hb:Below w.heap.size w w4) (_:Box w4 R T cs) (he:e=.returned (.agg (bH y (.slice vm ns.length cvm) (.slice vd ds.length cvd)))) (hm:(bI 119 55).Mine w4 [.slice vm ns.length cvm] ns fm) (hd:(aW 93).Mine w4 [.slice vd ds.length cvd] ds fd) (hr:∀b∈fm,b∉fd) (rm:∀b∈fm,lo<=b) (rd:∀b∈fd,lo<=b) (h1:w.heap.size<=R) (h2:R<lo):
 wt w (fa w4 R [(0,.int .i64 y.id),(1,.int .i64 y.n),(2,.int .i64 y.s),(3,.slice vm ns.length cvm),(4,.int .i64 y.lost),(5,.int .i64 y.xW),(6,.int .i64 y.seq),(7,.int .i64 y.tail),(8,.int .i64 y.gen),(9,.slice vd ds.length cvd),(10,.int .i64 y.xY),(11,.bool y.down),(12,.bool y.xX)]) e (y,ns) ds:=by
 have hbt:=dj R [(0,.int .i64 y.id),(1,.int .i64 y.n),(2,.int .i64 y.s),(3,.slice vm ns.length cvm),(4,.int .i64 y.lost),(5,.int .i64 y.xW),(6,.int .i64 y.seq),(7,.int .i64 y.tail),(8,.int .i64 y.gen),(9,.slice vd ds.length cvd),(10,.int .i64 y.xY),(11,.bool y.down),(12,.bool y.xX)] w4;have hz:=hbt.size;have hlm:=hm.lt;have hld:=hd.lt;refine ⟨vm,vd,cvm,cvd,he,⟨fm,fd,hm.but hbt (fun b hb=>by have:=rm b hb;omega),hd.but hbt (fun b hb=>by have:=rd b hb;omega),hr,fun b hb=>?_,fun b hb=>?_⟩,Below.andBut hb hbt h1⟩
 . have h3:=rm b hb
   have h4:=hlm b hb;omega
 have h3:=rd b hb;have h4:=hld b hb;omega
theorem qO {x:aq} {ms:List ai} {ds:List (Int×List Int)} (h:bf x ms ds=true):3<=x.n/\x.n<=5/\(ms.length:Int)=x.n:=by
 unfold bf cI at h;simp only [Bool.and_eq_true,aB,decide_eq_true_eq] at h
 exact ⟨h.1.1,h.1.2.1,h.2.2.1.2⟩
theorem rY {ns:List ai} (h:dh ns) (hl:ns.length<=5):aQ ns<=10005:=by
 have h1:=dY (ns.map aM) 2000 (fun y hy=>by
  obtain ⟨d,hd,rfl⟩:=List.mem_map.1 hy;obtain ⟨i,hi⟩:=List.mem_iff_getElem?.1 hd;obtain ⟨ss,cs,f,bs⟩:=d;exact fL (h i _ hi) f)
 rw [List.length_map] at h1;unfold aQ;omega
theorem rZ (w:World) (B:Nat) (x:aq) (ms:List ai) (ds:List (Int×List Int)) (fm fd:List Nat) (h:aK w B x ms ds fm fd) (hf:x.xY<=1000):
 Calls Tryz.prog 152 #[.pointer (some ⟨B,0,none⟩)] w fun e w'=>e=.returned (.bool (opB x))/\aK w' B (opX x) ms ds fm fd/\aT B fm w fm w':=by
 obtain ⟨bm,bd,cm,cd,X,hm,hd,hr,r1,r2⟩:=h;unfold bH at X;obtain ⟨k0,k1,k2,k3,k4,k5,k6,k7,k8,k9,k10,k11,k12⟩:=X.cells13;have fz:=X.frozen;cases hdn:x.down
 . rw [hdn] at k11
   by_cases h0:x.xY=0
   . have HB:Hid (opB x=false):=by unfold Hid opB;simp [h0]
     have HX:Hid (opX x={x with down:=true,xY:=-1}):=by unfold Hid opX;rw [if_neg (by simp [hdn]),if_pos h0]
     have Y:=(X.set 11 (.bool true)).set 10 (.int .i64 (-1));have M:=aa ((hm.setCell (g:=B) (j:=11) r1 (.bool true)).setCell (g:=B) (j:=10) r1 (.int .i64 (-1)));have D:=aa ((hd.setCell (g:=B) (j:=11) r2 (.bool true)).setCell (g:=B) (j:=10) r2 (.int .i64 (-1)));have MV:=aa ((aT.set (B:=B) (j:=11) (fm:=fm) (w:=w) (.bool true)).trans (aT.set (B:=B) (j:=10) (.int .i64 (-1))));have YH:=aa Y;rw [h0] at k10;clear Y X hm hd hdn h0;go_enter Tryz.func152,Tryz.ntmps152
     go_wp2
     go_ret
     exact ⟨ah HB.out.symm,by rw [HX.out];exact ⟨bm,bd,cm,cd,YH.out,M.out,D.out,hr,r1,r2⟩,MV.out⟩
   have e0:(x.xY==0)=false:=by simpa using h0
   have HB:Hid (opB x=true):=by unfold Hid opB;simp [h0,hdn]
   by_cases h1:0<x.xY
   . have hw:IntKind.i64.wrap (x.xY-1)=x.xY-1:=IntWalk.i64_in _ (by omega)
     have HX:Hid (opX x={x with xY:=x.xY-1}):=by unfold Hid opX;rw [if_neg (by simp [hdn]),if_neg h0,if_pos h1]
     have YH:=aa (X.set 10 (.int .i64 (x.xY-1)));have M:=aa (hm.setCell (g:=B) (j:=10) r1 (.int .i64 (x.xY-1)));have D:=aa (hd.setCell (g:=B) (j:=10) r2 (.int .i64 (x.xY-1)));have MV:=aa (aT.set (B:=B) (j:=10) (fm:=fm) (w:=w) (.int .i64 (x.xY-1)));clear X hm hd hdn h0;go_enter Tryz.func152,Tryz.ntmps152
     go_wp2
     go_ret
     exact ⟨ah HB.out.symm,by rw [HX.out];exact ⟨bm,bd,cm,cd,YH.out,M.out,D.out,hr,r1,r2⟩,MV.out⟩
   have HX:Hid (opX x=x):=by unfold Hid opX;rw [if_neg (by simp [hdn]),if_neg h0,if_neg h1]
   have YH:=aa X;clear hdn h0 X;go_enter Tryz.func152,Tryz.ntmps152
   go_wp2
   go_ret
   exact ⟨ah HB.out.symm,by rw [HX.out];exact ⟨bm,bd,cm,cd,YH.out,hm,hd,hr,r1,r2⟩,aT.refl _ _ _⟩
 have HB:Hid (opB x=false):=by unfold Hid opB;simp [hdn]
 have HX:Hid (opX x=x):=by unfold Hid opX;rw [if_pos hdn]
 rw [hdn] at k11;have YH:=aa X;clear hdn X;go_enter Tryz.func152,Tryz.ntmps152
 go_wp2
 go_ret
 exact ⟨ah HB.out.symm,by rw [HX.out];exact ⟨bm,bd,cm,cd,YH.out,hm,hd,hr,r1,r2⟩,aT.refl _ _ _⟩
theorem iF (w:World) (B:Nat) (x:aq) (ms:List ai) (ds:List (Int×List Int)) (fm fd:List Nat) (h:aK w B x ms ds fm fd) (hf:x.xY<=1000) (hM:dh ms) (m:Nat) (hm:m<ms.length) (n:Int) (a5:Option Addr) (n5 c5:Nat) (sw:List Int) (f5:List Nat) (h5:aD.Mine w [.slice a5 n5 c5] sw f5) (h5B:B∉f5) (h5f:∀b∈f5,b∉fm) (hn5:n5<=2097152):
 Calls Tryz.prog 136 #[.pointer (some ⟨B,0,none⟩),.int .i64 (m:Int),.int .i64 n,.slice a5 n5 c5] w fun e w'=>e=.returned (.tuple #[])/\∃fm',aK w' B (gT (x,ms) m n sw).1 (gT (x,ms) m n sw).2 ds fm' fd/\aT B fm w fm' w':=by
 have h00:=h;obtain ⟨bm,bd,cm,cd,X,hmm,hdd,hr,r1,r2⟩:=h;unfold bH at X;obtain ⟨g,rfl⟩:=cY hmm (by omega);have hdj:ms[m]?=some (ms[m]'hm):=List.getElem?_eq_getElem hm;generalize ms[m]'hm=d at hdj;obtain ⟨hgl,a0,a1,a3,c0,c1,c3,ss,cs,f,bs,rfl,q0,q1,q2,q3,_,_,_⟩:=gh hmm hdj;obtain ⟨k0,k1,k2,k3,k4,k5,k6,k7,k8,k9,k10,k11,k12⟩:=X.cells13;have i1:(0:Int)<=(m:Int):=by omega
 have i2:(m:Int)<(ms.length:Int):=by omega
 cases f
 . have H0:=aa h00
   clear X hmm hdd hgl q0 q1 q3;go_enter Tryz.func136,Tryz.ntmps136
   go_wp2_with fail
   refine (rZ _ B x ms ds fm fd H0.out hf).mono ?_
   rintro e w1 ⟨rfl,hA1,hMv1⟩;clear k0 k1 k2 k3 k4 k5 k6 k7 k8 k9 k10 k11 k12 q2 H0 h00;cases ho:opB x
   . have HP:Hid (gT (x,ms) m n sw=(opX x,ms)):=wg hdj rfl ho
     go_wp2
     refine bodyPost_ret (v:=.tuple #[]) (by simp [results,Tryz.results136,go_sem]) rfl ?_
     exact ⟨rfl,fm,by rw [HP.out];exact hA1,hMv1⟩
   have HP:Hid (gT (x,ms) m n sw=(opX x,ms.set m (wrM (ss,cs,false,bs) n sw))):=ua hdj rfl ho;obtain ⟨bm,bd,cm,cd,X,hmm,hdd,hr,r1,r2⟩:=hA1;obtain ⟨g,rfl⟩:=cY hmm (by omega);obtain ⟨hgl,a0,a1,a3,c0,c1,c3,ss,cs,f,bs,hde,q0,q1,q2,q3,p0,p1,p3⟩:=gh hmm hdj;simp only [Prod.mk.injEq] at hde
   obtain ⟨rfl,rfl,rfl,rfl⟩:=hde;have X0:=X;unfold bH at X0;obtain ⟨k0,k1,k2,k3,k4,k5,k6,k7,k8,k9,k10,k11,k12⟩:=X0.cells13;have hwt:=fL (hM m _ hdj) false;dsimp only at hwt
   have XH:=aa X;have MH:=aa hmm;have DH:=aa hdd;have MV:=aa hMv1;have DJ:=aa hdj;have h51:=(hMv1.mine h5 h5B h5f).rd;clear X X0 hmm hdd hMv1 hdj;go_wp2_with fail
   refine (ir _ 119 _ _ _ _ _ _ _ _ _ _ _ _ ss cs false bs n sw p0 p1 p3 h51 (by omega) hn5).mono ?_
   rintro e w2 ⟨u0,u1,u3,rfl,o2,b2⟩;obtain ⟨d0,l0,f0,d1,l1,f1,d3,l3,f3,hv0,hv1,hv3⟩:=cU o2;subst hv0 hv1 hv3;have b3:=af w2 (.cells #[.slice d0 l0 f0,.slice d1 l1 f1,.bool false,.slice d3 l3 f3] 55);have b13:Below w1.heap.size w1 (w2.alloc (.cells #[.slice d0 l0 f0,.slice d1 l1 f1,.bool false,.slice d3 l3 f3] 55)):=Below.andThen b2 b3;have Y3:=Box.new w2 55 #[.slice d0 l0 f0,.slice d1 l1 f1,.bool false,.slice d3 l3 f3];have zY:=Y3.lt;have z2:=b2.size;obtain ⟨fpx,mx,rx⟩:=(o2.below b3).mine;obtain ⟨cOld,fz,hgm,fm9,hA9,hMv9⟩:=iz XH.out MH.out DH.out hr r1 r2 b13 hm mx (fun b hb=>(rx b hb).1);obtain ⟨o0,t0⟩:=cOld 0 (by omega);obtain ⟨o1,t1⟩:=cOld 1 (by omega);obtain ⟨o2',t2⟩:=cOld 2 (by omega);obtain ⟨o3,t3⟩:=cOld 3 (by omega);rw [Nat.add_zero] at t0;have HA:=aa hA9;have HMV:=aa (MV.out.trans hMv9);have X3:=XH.out.below b13 XH.out.lt;unfold bH at X3;have gB:¬g=B:=fun e=>r1 (e▸hgm);have gY:¬g=w2.heap.size:=by omega
   obtain ⟨y0,y1,y2,y3⟩:=Y3.cells4;have x3:=X3.cells13.2.2.2.1;have hS:(w2.alloc (.cells #[.slice d0 l0 f0,.slice d1 l1 f1,.bool false,.slice d3 l3 f3] 55)).drew.cell? ⟨B,3,none⟩=some (.slice (some ⟨g,0,none⟩) ms.length cm)/\(w2.alloc (.cells #[.slice d0 l0 f0,.slice d1 l1 f1,.bool false,.slice d3 l3 f3] 55)).drew.cell? ⟨w2.heap.size,0,none⟩=some (.slice d0 l0 f0)/\(w2.alloc (.cells #[.slice d0 l0 f0,.slice d1 l1 f1,.bool false,.slice d3 l3 f3] 55)).drew.cell? ⟨w2.heap.size,1,none⟩=some (.slice d1 l1 f1)/\(w2.alloc (.cells #[.slice d0 l0 f0,.slice d1 l1 f1,.bool false,.slice d3 l3 f3] 55)).drew.cell? ⟨w2.heap.size,2,none⟩=some (.bool false)/\(w2.alloc (.cells #[.slice d0 l0 f0,.slice d1 l1 f1,.bool false,.slice d3 l3 f3] 55)).drew.cell? ⟨w2.heap.size,3,none⟩=some (.slice d3 l3 f3):=⟨x3,y0,y1,y2,y3⟩;unfold gL at HA HMV;clear k0 k1 k2 k3 k4 k5 k6 k7 k8 k9 k10 k11 k12 q0 q1 q2 q3 p0 p1 p3 h51 o2 b2 b3 b13 Y3 mx rx cOld hA9 hMv9 X3 x3 XH MH DH MV hwt;go_wp2_with fail
   refine ao.start (S:=fun w'=>w'.cell? ⟨B,3,none⟩=some (.slice (some ⟨g,0,none⟩) ms.length cm)/\w'.cell? ⟨w2.heap.size,0,none⟩=some (.slice d0 l0 f0)/\w'.cell? ⟨w2.heap.size,1,none⟩=some (.slice d1 l1 f1)/\w'.cell? ⟨w2.heap.size,2,none⟩=some (.bool false)/\w'.cell? ⟨w2.heap.size,3,none⟩=some (.slice d3 l3 f3)) (k:=7) (by kernel_rfl) ?_
   refine ao.t 0 hS ?_
   refine ao.t 1 hS ?_
   refine ao.t 2 hS ?_
   refine ao.t 3 hS ?_
   refine ao.t 4 hS ?_
   refine ao.t 5 hS ?_
   refine ao.t 6 hS ?_
   refine ao.one (i:=7) (by kernel_rfl) rfl (fun K hK=>?_)
   go_simp
   refine hK.out _ _ (fun h=>absurd rfl h) ?_
   clear hK K;refine ao.done (by kernel_rfl) ?_ _
   clear hS y0 y1 y2 y3 t0 t1 t2 t3 fz;go_wp2
   refine bodyPost_end (v:=.tuple #[]) (results_none rfl _ _ _) rfl ?_
   exact ⟨rfl,fm9,by rw [HP.out];exact HA.out.drew,HMV.out.drew⟩
 have HP:Hid (gT (x,ms) m n sw=(x,ms)):=og hdj rfl;clear X hmm hdd hgl q0 q1 q3;go_enter Tryz.func136,Tryz.ntmps136
 go_wp2
 refine bodyPost_ret (v:=.tuple #[]) (by simp [results,Tryz.results136,go_sem]) rfl ?_
 exact ⟨rfl,fm,by rw [HP.out];exact h00,aT.refl _ _ _⟩
theorem jU (w:World) (B:Nat) (x:aq) (ms:List ai) (ds:List (Int×List Int)) (fm fd:List Nat) (h:aK w B x ms ds fm fd) (hf:x.xY<=1000) (hM:dh ms):
 Calls Tryz.prog 137 #[.pointer (some ⟨B,0,none⟩)] w fun e w'=>e=.returned (.tuple #[])/\∃fm',aK w' B (cC (x,ms) ms.length).1 (cC (x,ms) ms.length).2 ds fm' fd/\aT B fm w fm' w':=by
 have hkp:=fun j=>ia (q:=(x,ms)) hM hf j;have HK:=aa hkp;clear hkp;have H0:=aa h;obtain ⟨bm0,bd0,cm0,cd0,X0,hm0,_⟩:=h;have hmx:=(ag hm0.rd).2;clear X0 hm0;go_enter Tryz.func137,Tryz.ntmps137
 go_wp2
 go_loopw [2] (fun i wr=>∃(j:Nat) (fm1:List Nat),j<=ms.length/\i=.int .i64 j/\aK wr B (cC (x,ms) j).1 (cC (x,ms) j).2 ds fm1 fd/\aT B fm w fm1 wr) (fun i _=>ms.length-(intOf i).toNat)
 case atStart=>exact ⟨0,fm,Nat.zero_le _,rfl,H0.out,aT.refl _ _ _⟩
 obtain ⟨j,fm1,hj,rfl,hA,hMv⟩:=hrel;obtain ⟨hMj,hsj,hlj⟩:=HK.out j;have hfj:=hsj.2.2.2.2.2.2.2.2.2.1;have HS:=aa (jS (x,ms) j);generalize hst:cC (x,ms) j=st at hA hMj hsj hlj hfj HS;have HST:=aa hst;clear hst;obtain ⟨y,ns⟩:=st;dsimp only at hA hMj hsj hlj hfj
 have HA:=aa hA;obtain ⟨bm,bd,cm,cd,X,hmm,hdd,hr,r1,r2⟩:=hA;rw [hlj] at X hmm;have X0:=X;unfold bH at X0;obtain ⟨k0,k1,k2,k3,k4,k5,k6,k7,k8,k9,k10,k11,k12⟩:=X0.cells13;by_cases hjn:j<ms.length
 . have i2:(j:Int)<(ms.length:Int):=by omega
   have i1:(0:Int)<=(j:Int):=by omega
   obtain ⟨g,rfl⟩:=cY hmm (by omega);have hdj:ns[j]?=some (ns[j]'(by omega)):=List.getElem?_eq_getElem (by omega);generalize ns[j]'(by omega)=d at hdj;obtain ⟨hgl,a0,a1,a3,c0,c1,c3,ss,cs,f,bs,rfl,q0,q1,q2,q3,_,_,_⟩:=gh hmm hdj;have MV:=aa hMv;clear X X0 hmm hdd hMv;cases f
   . go_wp2_with fail
     refine (rZ _ B y ns ds fm1 fd HA.out hfj).mono ?_
     rintro e w1 ⟨rfl,hA1,hMv1⟩;clear k0 k1 k2 k3 k4 k5 k6 k7 k8 k9 k10 k11 k12 q0 q1 q2 q3 HA;cases ho:opB y
     . have HP:Hid (cC (x,ms) (j+1)=(opX y,ns)):=HS.out.trans (wg hdj rfl ho)
       have HB:=aa (MV.out.trans hMv1);have HA1:=aa hA1;clear hA1 hMv1;go_wp2
       go_roundw
       case rel=>exact ⟨j+1,fm1,by omega,by go_num,by rw [HP.out];exact HA1.out,HB.out⟩
       case measure=>simp [intOf];omega
     have HP:Hid (cC (x,ms) (j+1)=(opX y,ns.set j (flM (ss,cs,false,bs)))):=HS.out.trans (ua hdj rfl ho);obtain ⟨bm,bd,cm,cd,X,hmm,hdd,hr,r1,r2⟩:=hA1;obtain ⟨g,rfl⟩:=cY hmm (by omega);obtain ⟨hgl,a0,a1,a3,c0,c1,c3,ss,cs,f,bs,hde,q0,q1,q2,q3,p0,p1,p3⟩:=gh hmm hdj;simp only [Prod.mk.injEq] at hde
     obtain ⟨rfl,rfl,rfl,rfl⟩:=hde;have X0:=X;unfold bH at X0;have x3:=X0.cells13.2.2.2.1;have hwt:=fL (hMj j _ hdj) false;dsimp only at hwt
     have zB:=X.lt;have XH:=aa X;have MH:=aa hmm;have DH:=aa hdd;have MV1:=aa hMv1;have R0:=aa p0;have R1:=aa p1;have R3:=aa p3;have hS:w1.drew.cell? ⟨B,3,none⟩=some (.slice (some ⟨g,0,none⟩) ns.length cm)/\w1.drew.cell? ⟨g,j*4,none⟩=some (.slice a0 ss.length c0)/\w1.drew.cell? ⟨g,j*4+1,none⟩=some (.slice a1 cs.length c1)/\w1.drew.cell? ⟨g,j*4+2,none⟩=some (.bool false)/\w1.drew.cell? ⟨g,j*4+3,none⟩=some (.slice a3 bs.length c3):=⟨x3,q0,q1,q2,q3⟩;have i3:(j:Int)<(ns.length:Int):=by omega
     clear X X0 hmm hdd hMv1 p0 p1 p3;go_wp2_with fail
     refine ao.start (S:=fun w'=>w'.cell? ⟨B,3,none⟩=some (.slice (some ⟨g,0,none⟩) ns.length cm)/\w'.cell? ⟨g,j*4,none⟩=some (.slice a0 ss.length c0)/\w'.cell? ⟨g,j*4+1,none⟩=some (.slice a1 cs.length c1)/\w'.cell? ⟨g,j*4+2,none⟩=some (.bool false)/\w'.cell? ⟨g,j*4+3,none⟩=some (.slice a3 bs.length c3)) (k:=14) (by kernel_rfl) ?_
     refine ao.t 0 hS ?_
     refine ao.t 1 hS ?_
     refine ao.t 2 hS ?_
     refine ao.t 3 hS ?_
     refine ao.t 4 hS ?_
     refine ao.t 5 hS ?_
     refine ao.t 6 hS ?_
     refine ao.t 7 hS ?_
     refine ao.t 8 hS ?_
     refine ao.t 9 hS ?_
     refine ao.t 10 hS ?_
     refine ao.t 11 hS ?_
     refine ao.one (i:=12) (by kernel_rfl) rfl (fun K hK=>?_)
     go_simp
     refine (iG _ 119 _ _ _ _ _ _ _ _ _ ss cs false bs R0.out.drew R1.out.drew R3.out.drew (by omega)).mono ?_
     rintro e w2 ⟨u0,u1,u3,rfl,o2,b2'⟩;have b2:Below w1.heap.size w1 w2:=(Below.refl w1.heap.size w1).drew.trans b2';have o2b:(cu 119).Own w2 w1.heap.size w2.heap.size [u0,u1,.bool false,u3] _:=o2;obtain ⟨d0,l0,f0,d1,l1,f1,d3,l3,f3,hv0,hv1,hv3⟩:=cU o2b;subst hv0 hv1 hv3;obtain ⟨fpx,mx,rx⟩:=o2b.mine;obtain ⟨cOld,fz,hgm,fm9,hA9,hMv9⟩:=iz (m:=j) XH.out MH.out DH.out hr r1 r2 b2 (by omega) mx (fun b hb=>(rx b hb).1);obtain ⟨o0,t0⟩:=cOld 0 (by omega);obtain ⟨o1,t1⟩:=cOld 1 (by omega);obtain ⟨o2',t2⟩:=cOld 2 (by omega);obtain ⟨o3,t3⟩:=cOld 3 (by omega);rw [Nat.add_zero] at t0;have HA:=aa hA9;have HMV:=aa ((MV.out.trans MV1.out).trans hMv9);have hS2:w2.cell? ⟨B,3,none⟩=some (.slice (some ⟨g,0,none⟩) ns.length cm)/\w2.cell? ⟨g,j*4,none⟩=some (.slice a0 ss.length c0)/\w2.cell? ⟨g,j*4+1,none⟩=some (.slice a1 cs.length c1)/\w2.cell? ⟨g,j*4+2,none⟩=some (.bool false)/\w2.cell? ⟨g,j*4+3,none⟩=some (.slice a3 bs.length c3):=⟨(b2.cell (p:=⟨B,3,none⟩) zB).trans x3,(b2.cell (p:=⟨g,j*4,none⟩) hgl).trans q0,(b2.cell (p:=⟨g,j*4+1,none⟩) hgl).trans q1,(b2.cell (p:=⟨g,j*4+2,none⟩) hgl).trans q2,(b2.cell (p:=⟨g,j*4+3,none⟩) hgl).trans q3⟩;have gB:¬g=B:=fun e=>r1 (e▸hgm);unfold gL at HA HMV;clear x3 q0 q1 q2 q3 o2 o2b b2 b2' mx rx cOld hA9 hMv9 XH MH DH MV MV1 R0 R1 R3 hwt;go_wp2_with fail
     refine hK.out _ _ (fun _=>hS2) ?_
     clear hK K;refine ao.t 13 hS2 ?_
     refine ao.one (i:=14) (by kernel_rfl) rfl (fun K hK=>?_)
     go_simp
     refine hK.out _ _ (fun h=>absurd rfl h) ?_
     clear hK K;refine ao.done (by kernel_rfl) ?_ _
     clear hS hS2 t0 t1 t2 t3 fz;go_wp2
     go_roundw
     case rel=>exact ⟨j+1,fm9,by omega,by go_num,by rw [HP.out];exact HA.out,HMV.out⟩
     case measure=>simp [intOf];omega
   have HP:Hid (cC (x,ms) (j+1)=(y,ns)):=HS.out.trans (og hdj rfl);go_wp2
   go_roundw
   case rel=>exact ⟨j+1,fm1,by omega,by go_num,by rw [HP.out];exact HA.out,MV.out⟩
   case measure=>simp [intOf];omega
 have ej:j=ms.length:=by omega
 subst ej;have HMV:=aa hMv;clear X X0 hmm hdd hMv;go_wp2
 refine bodyPost_end (v:=.tuple #[]) (results_none rfl _ _ _) rfl ?_
 exact ⟨rfl,fm1,by rw [HST.out];exact HA.out,HMV.out⟩
def kX (n p:Int) (zs:List Int) (i:Nat):Int:=if (i:Int)=p then fJ zs else zs.getD (((i:Int)-p-1+n) % n).toNat 0
def bO (q:aq×List ai) (s p:Int) (zs:List Int) (j:Nat):aq×List ai:=(List.range j).foldl (fun q (i:Nat)=>if dC q.1 q.2 (i:Int) s=true then gT q i (bE s) [kX q.1.n p zs i] else q) q
theorem mF (q:aq×List ai) (s p:Int) (zs:List Int) (j:Nat):bO q s p zs (j+1)=if dC (bO q s p zs j).1 (bO q s p zs j).2 (j:Int) s=true then gT (bO q s p zs j) j (bE s) [kX (bO q s p zs j).1.n p zs j] else bO q s p zs j:=by unfold bO;rw [List.range_succ,List.foldl_append];rfl
theorem iN {q:aq×List ai} (s p:Int) (zs:List Int) (h:dh q.2) (hf:q.1.xY<=1000):∀j,dh (bO q s p zs j).2/\ef q.1 (bO q s p zs j).1/\(bO q s p zs j).2.length=q.2.length
 | 0=>⟨h,ef.refl hf,rfl⟩
 | j+1=>by
  obtain ⟨h1,h2,h3⟩:=iN s p zs h hf j;rw [mF];split
  . exact ⟨qN h1,h2.trans (iE _ _ h2.2.2.2.2.2.2.2.2.2.1),by unfold gT;rw [kW];exact h3⟩
  exact ⟨h1,h2,h3⟩
theorem dh.light {ms:List ai} (h:dh ms) (hl:ms.length<=1000):aQ ms<=2097152:=by
 have h1:∀x∈ms.map aM,x<=2000:=fun x hx=>by
  obtain ⟨d,hd,rfl⟩:=List.mem_map.1 hx;obtain ⟨i,hi⟩:=List.mem_iff_getElem?.1 hd;exact fL (h i d hi) d.2.2.1
 have h2:=dY (ms.map aM) 2000 h1;rw [List.length_map] at h2;unfold aQ;omega
theorem par_in {n s t:Int} (hg:bL n s=true) (ht:inB t 0 (s-1)=true):0<=eS n s t/\eS n s t<n:=by
 obtain ⟨g1,g2,g3,g4⟩:=aB.1 hg;have hs:bJ n s t=true:=by unfold bJ;rw [hg,ht];rfl
 unfold eS;rw [if_pos hs];have h1:=Int.emod_nonneg t (show n≠0 by omega);have h2:=Int.emod_lt_of_pos t (show 0<n by omega);omega
theorem oh (w:World) (B:Nat) (x:aq) (ms:List ai) (ds:List (Int×List Int)) (fm fd:List Nat) (h:aK w B x ms ds fm fd) (hf:x.xY<=1000) (hM:dh ms) (s:Int) (ar:Option Addr) (nr cr:Nat) (zs:List Int) (fr:List Nat) (h5:aD.Mine w [.slice ar nr cr] zs fr) (h5B:B∉fr) (h5f:∀b∈fr,b∉fm) (hg:bL x.n x.s=true) (hs:inB s 0 (x.s-1)=true) (hl:(ms.length:Int)=x.n) (hz:(nr:Int)=x.n-1):
 Calls Tryz.prog 149 #[.pointer (some ⟨B,0,none⟩),.int .i64 s,.slice ar nr cr] w fun e w'=>e=.returned (.tuple #[])/\∃fm',aK w' B (bO (x,ms) s (eS x.n x.s s) zs ms.length).1 (bO (x,ms) s (eS x.n x.s s) zs ms.length).2 ds fm' fd/\aT B fm w fm' w':=by
 have hzl:=(ag h5.rd).1;obtain ⟨g1,g2,g3,g4⟩:=aB.1 hg;obtain ⟨pn0,pn1⟩:=par_in hg hs;have HK:Hid (∀j,_):=fun j=>iN (q:=(x,ms)) s (eS x.n x.s s) zs hM hf j;obtain ⟨N,hN⟩:∃N:Nat,x.n=(N:Int):=⟨x.n.toNat,by omega⟩;have hmN:ms.length=N:=by omega
 have hn5:N<=5:=by omega
 have hn3:3<=N:=by omega
 have hnr:nr+1<=N/\N<=nr+1:=by omega
 have hml:ms.length<=N/\N<=ms.length:=by omega
 have HNN:=aa hN;have hpN:eS x.n x.s s<(N:Int):=by omega
 clear hN hmN hl hz pn1;have A0:=aa h;have zB:=h.lt;have hlm:=h.ltm.1;have hlr:=h5.lt;have M5:=aa h5;have hmx:∃cm0,ms.length<=cm0/\cm0<=9223372036854775807:=by
  obtain ⟨_,_,cm0,_,_,hm0,_⟩:=h;exact ⟨cm0,(ag hm0.rd).2⟩
 obtain ⟨cm0,hmx⟩:=hmx;obtain ⟨bm,bd,cm,cd,X,hmm,hdd,hr,r1,r2⟩:=h;unfold bH at X;obtain ⟨k0,k1,k2,k3,k4,k5,k6,k7,k8,k9,k10,k11,k12⟩:=X.cells13;clear X hmm hdd hr r1 r2;go_enter Tryz.func149,Tryz.ntmps149
 go_wp2_with fail
 refine (iB _ x.n x.s s).mono ?_
 rintro e W ⟨rfl,bW⟩;clear k0 k1 k2 k3 k4 k5 k6 k7 k8 k9 k10 k11 k12;generalize hp:eS x.n x.s s=p at pn0 hpN HK ⊢;have HP0:=aa hp;clear hp;have A1:=aa (A0.out.below bW);have M5W:=aa (M5.out.below bW);have BW:=aa bW;have zW:=bW.size;clear bW A0 M5;go_wp2
 go_loopw [7] (fun i wr=>∃(j:Nat) (fm1:List Nat),j<=ms.length/\i=.int .i64 j/\aK wr B (bO (x,ms) s p zs j).1 (bO (x,ms) s p zs j).2 ds fm1 fd/\aT B fm W fm1 wr) (fun i _=>ms.length-(intOf i).toNat)
 case atStart=>exact ⟨0,fm,Nat.zero_le _,rfl,A1.out,aT.refl _ _ _⟩
 obtain ⟨j,fm1,hj,rfl,hA,hMv⟩:=hrel;obtain ⟨hMj,hsj,hlj⟩:=HK.out j;have hfj:=hsj.2.2.2.2.2.2.2.2.2.1;have hnj:=hsj.2.1;have HS:=aa (mF (x,ms) s p zs j);generalize hst:bO (x,ms) s p zs j=st at hA hMj hsj hlj hfj hnj HS;have HST:=aa hst;clear hst;obtain ⟨y,ns⟩:=st;dsimp only at hA hMj hsj hlj hfj hnj HS
 clear hsj;have HNJ:=aa hnj;clear hnj;have HA:=aa hA;obtain ⟨bm,bd,cm,cd,X,hmm,hdd,hr,r1,r2⟩:=hA;have HL:=aa hlj;rw [hlj] at X hmm;unfold bH at X;have hwM:=hMj.light (by omega);clear hlj;have RM:=aa hmm.rd;have zr:=X.lt;have XH:=aa X;obtain ⟨k0,k1,k2,k3,k4,k5,k6,k7,k8,k9,k10,k11,k12⟩:=X.cells13;clear hmm hdd hr r1 r2 X;have m5:=hMv.mine M5W.out h5B h5f;have zw:=hMv.size;obtain ⟨rd5,_⟩:=aR m5.rd;have M5R:=aa m5;have MV:=aa hMv;clear m5 hMv;by_cases hjn:j<ms.length
 . have i2:(j:Int)<(ms.length:Int):=by omega
   have RD5:=aa rd5;go_wp2_with fail
   refine (jK _ _ _ _ zs hzl RD5.out (by omega)).mono ?_
   rintro e w1 ⟨rfl,s1⟩;have b1:=s1.below wr.heap.size;have X1:=XH.out.below b1 zr;have A2:=aa (HA.out.below b1);have R2:=aa (RM.out.below b1);have M2:=aa (M5R.out.below b1);have MV2:=aa (MV.out.below b1);have zr1:=X1.lt;have RD6:=aa (RD5.out.below b1);have z1:=b1.size;clear k0 k1 k2 k3 k4 k5 k6 k7 k8 k9 k10 k11 k12 s1 b1 XH RM M5R MV RD5 HA rd5;obtain ⟨k0,k1,k2,k3,k4,k5,k6,k7,k8,k9,k10,k11,k12⟩:=X1.cells13;by_cases hjp:(j:Int)=p
   . have e1:((j:Int)==p)=true:=by simpa using hjp
     have e2:((j:Int) !=p)=false:=by simpa using hjp
     have HDW:Hid (kX y.n p zs j=fJ zs):=by unfold Hid kX;rw [if_pos hjp]
     clear hjp;generalize fJ zs=v at HDW ⊢;go_wp2_with fail
     refine (fh _ 119 55 y _ _ _ _ _ _ ns (j:Int) s R2.out hwM).mono ?_
     rintro e w4 ⟨rfl,b4⟩;have A4:=aa (A2.out.below b4);have MV4:=aa (MV2.out.below b4);clear k0 k1 k2 k3 k4 k5 k6 k7 k8 k9 k10 k11 k12 b4 X1;cases hlv:dC y ns (j:Int) s
     . have HP:Hid (bO (x,ms) s p zs (j+1)=(y,ns)):=by unfold Hid;rw [HS.out,if_neg (by simp [hlv])]
       go_wp2
       go_roundw
       case rel=>exact ⟨j+1,fm1,by omega,by go_num,by rw [HP.out];exact A4.out,MV4.out⟩
       case measure=>simp [intOf];omega
     have HP:Hid (bO (x,ms) s p zs (j+1)=gT (y,ns) j (bE s) [kX y.n p zs j]):=by unfold Hid;rw [HS.out,if_pos hlv]
     rw [HDW.out] at HP;go_wp2_with fail
     refine (cF _ _).mono ?_
     rintro e w5 ⟨rfl,h5w⟩;subst h5w;have b5:=af w5 (.cells #[.int .i64 v] 3);have A5:=aa (A4.out.below b5);have MV5:=aa (MV4.out.below b5);have LT:=aa A4.out.ltm;have zB4:=A4.out.lt;obtain ⟨fp5,m5,r5⟩:=(aS (bk.lit .i64 3 w5 [v] 1 #[.int .i64 v] rfl rfl (by unfold maxLen;omega))).mine;have M5:=aa m5;have R5:=aa r5;clear m5 r5 b5;go_wp2_with fail
     refine (iF _ B y ns ds fm1 fd A5.out hfj hMj j (by have:=HL.out;omega) _ _ _ _ [v] fp5 M5.out (fun hm=>by have:=R5.out _ hm;omega) (fun b hb hm=>by have h1:=R5.out b hb;have h2:=LT.out.1 b hm;omega) (by omega)).mono ?_
     rintro e w6 ⟨rfl,fm3,hA3,hMv3⟩;have HA3:Hid (aK w6 B (bO (x,ms) s p zs (j+1)).1 (bO (x,ms) s p zs (j+1)).2 ds fm3 fd):=by unfold Hid;rw [HP.out];exact hA3
     have HM3:=aa (MV5.out.trans hMv3);clear hA3 hMv3;go_wp2
     go_roundw
     case rel=>exact ⟨j+1,fm3,by omega,by go_num,HA3.out,HM3.out⟩
     case measure=>simp [intOf];omega
   have e1:((j:Int)==p)=false:=by simpa using hjp
   have e2:((j:Int) !=p)=true:=by simpa using hjp
   have hyN:y.n=(N:Int):=HNJ.out.trans HNN.out;obtain ⟨Q,hQ⟩:∃Q:Nat,((j:Int)-p-1+(N:Int)) % (N:Int)=(Q:Int):=⟨(((j:Int)-p-1+(N:Int)) % (N:Int)).toNat,by have:=Int.emod_nonneg ((j:Int)-p-1+(N:Int)) (show (N:Int)≠0 by omega);omega⟩;have hQlt:Q<nr:=by
    have h1:=Int.emod_lt_of_pos ((j:Int)-p-1+(N:Int)) (show (0:Int)<(N:Int) by omega);by_cases hc:(j:Int)<p
    . rw [Int.emod_eq_of_lt (by omega) (by omega)] at hQ;omega
    rw [show (j:Int)-p-1+(N:Int)=((j:Int)-p-1)+(N:Int)*1 by omega,Int.add_mul_emod_self_left,Int.emod_eq_of_lt (by omega) (by omega)] at hQ;omega
   have HDW:Hid (kX y.n p zs j=zs.getD Q 0):=by unfold Hid kX;rw [if_neg hjp,hyN,hQ,Int.toNat_natCast]
   rw [hyN] at k1;have w1a:IntKind.i64.wrap ((j:Int)-p)=(j:Int)-p:=IntWalk.i64_in _ (by omega);have w1b:IntKind.i64.wrap ((j:Int)-p-1)=(j:Int)-p-1:=IntWalk.i64_in _ (by omega);have w1c:IntKind.i64.wrap ((j:Int)-p-1+(N:Int))=(j:Int)-p-1+(N:Int):=IntWalk.i64_in _ (by omega);have w1d:((j:Int)-p-1+(N:Int)).tmod (N:Int)=(Q:Int):=by rw [Int.tmod_eq_emod_of_nonneg (by omega),hQ]
   have w1e:¬(N:Int)=0:=by omega
   have w1f:¬N=0:=by omega
   have w1g:IntKind.i64.wrap (Q:Int)=(Q:Int):=IntWalk.i64_in _ (by omega);have q1:(0:Int)<=(Q:Int):=by omega
   have q2:(Q:Int)<(nr:Int):=by omega
   rcases RD6.out.cases with hn0|⟨b,off,rfl,hbl,hcs⟩
   . omega
   have hcq:=hcs Q (by omega);generalize zs.getD Q 0=v at HDW hcq ⊢;clear hQ hjp hcs hyN;go_wp2_with fail
   refine wp_region_held_drew (S:=fun w'=>w'.cell? ⟨B,1,none⟩=some (.int .i64 (N:Int))/\w'.cell? ⟨b,off+Q,none⟩=some (.int .i64 v)) (by kernel_rfl) ?_ (fun xV=>?_)
   . exact ⟨k1,hcq⟩
   refine ae 0 xV ?_
   refine ae 1 xV ?_
   refine ae 2 xV ?_
   refine ae 3 xV ?_
   refine ae 4 xV ?_
   refine ae 5 xV ?_
   refine ae 6 xV ?_
   refine ae 7 xV ?_
   refine ae 8 xV ?_
   refine ae 9 xV ?_
   refine ae 10 xV ?_
   refine ae 11 xV ?_
   refine ae 12 xV ?_
   refine ae 13 xV ?_
   refine ae 14 xV ?_
   refine ae 15 xV ?_
   refine ae 16 xV ?_
   refine ae 17 xV ?_
   refine ae 18 xV ?_
   refine ae 19 xV ?_
   refine wpAnyH_done (by kernel_rfl) ?_ _
   clear xV;have X3:=X1.below ((Below.refl w1.heap.size w1).drew) zr1;have A3:=aa A2.out.drew;have R3:=aa R2.out.drew;have MV3:=aa MV2.out.drew;clear k0 k1 k2 k3 k4 k5 k6 k7 k8 k9 k10 k11 k12 hcq;obtain ⟨k0,k1,k2,k3,k4,k5,k6,k7,k8,k9,k10,k11,k12⟩:=X3.cells13;go_wp2_with fail
   refine (fh _ 119 55 y _ _ _ _ _ _ ns (j:Int) s R3.out hwM).mono ?_
   rintro e w4 ⟨rfl,b4⟩;have A4:=aa (A3.out.below b4);have MV4:=aa (MV3.out.below b4);clear k0 k1 k2 k3 k4 k5 k6 k7 k8 k9 k10 k11 k12 b4 X1;cases hlv:dC y ns (j:Int) s
   . have HP:Hid (bO (x,ms) s p zs (j+1)=(y,ns)):=by unfold Hid;rw [HS.out,if_neg (by simp [hlv])]
     go_wp2
     go_roundw
     case rel=>exact ⟨j+1,fm1,by omega,by go_num,by rw [HP.out];exact A4.out,MV4.out⟩
     case measure=>simp [intOf];omega
   have HP:Hid (bO (x,ms) s p zs (j+1)=gT (y,ns) j (bE s) [kX y.n p zs j]):=by unfold Hid;rw [HS.out,if_pos hlv]
   rw [HDW.out] at HP;go_wp2_with fail
   refine (cF _ _).mono ?_
   rintro e w5 ⟨rfl,h5w⟩;subst h5w;have b5:=af w5 (.cells #[.int .i64 v] 3);have A5:=aa (A4.out.below b5);have MV5:=aa (MV4.out.below b5);have LT:=aa A4.out.ltm;have zB4:=A4.out.lt;obtain ⟨fp5,m5,r5⟩:=(aS (bk.lit .i64 3 w5 [v] 1 #[.int .i64 v] rfl rfl (by unfold maxLen;omega))).mine;have M5:=aa m5;have R5:=aa r5;clear m5 r5 b5;go_wp2_with fail
   refine (iF _ B y ns ds fm1 fd A5.out hfj hMj j (by have:=HL.out;omega) _ _ _ _ [v] fp5 M5.out (fun hm=>by have:=R5.out _ hm;omega) (fun b hb hm=>by have h1:=R5.out b hb;have h2:=LT.out.1 b hm;omega) (by omega)).mono ?_
   rintro e w6 ⟨rfl,fm3,hA3,hMv3⟩;have HA3:Hid (aK w6 B (bO (x,ms) s p zs (j+1)).1 (bO (x,ms) s p zs (j+1)).2 ds fm3 fd):=by unfold Hid;rw [HP.out];exact hA3
   have HM3:=aa (MV5.out.trans hMv3);clear hA3 hMv3;go_wp2
   go_roundw
   case rel=>exact ⟨j+1,fm3,by omega,by go_num,HA3.out,HM3.out⟩
   case measure=>simp [intOf];omega
 have ej:j=ms.length:=by omega
 subst ej;have HMV:=aa (((aT.refl B fm w).below BW.out).trans MV.out);go_wp2
 refine bodyPost_end (v:=.tuple #[]) (results_none rfl _ _ _) rfl ?_
 exact ⟨rfl,fm1,by rw [HP0.out,HST.out];exact HA.out,HMV.out⟩
end Go.Proofs.YtgjomldcnjjpaaaGreat
