/-
 A disk that is MemOk stays so: new, flushed or fallen, written, spoilt. Plain lemmas. No condition.
-/
import Derived.Test.YtgjomldcnjjpaaaGreatRowArrsSq1
import Derived.Test.YtgjomldcnjjpaaaGreatRowArrsSq22
import Derived.Test.YtgjomldcnjjpaaaGreatRowArrsSq11
import Derived.Test.YtgjomldcnjjpaaaGreatRowArrsSq5
import Derived.Test.YtgjomldcnjjpaaaGreatRowArrsSq15
import Derived.Test.YtgjomldcnjjpaaaGreatRowArrsSq26
import Derived.Test.YtgjomldcnjjpaaaGreatRowArrsSq23
import Derived.Test.YtgjomldcnjjpaaaGreatRowArrsSq12

set_option maxRecDepth 100000
set_option maxHeartbeats 8000000
set_option linter.unusedSimpArgs false

namespace Go.Proofs.YtgjomldcnjjpaaaGreat
open Go.RowKit

theorem ir (w:World) (E:TypeId) (a0 a1 a3 a5:Option Addr) (n0 c0 n1 c1 n3 c3 n5 c5:Nat) (ss:List (List Int)) (cs:List (Int×List Int)) (f:Bool) (bs:List Int) (n:Int) (sw:List Int) (h0:aU.Rd w [.slice a0 n0 c0] ss) (h1:(aW E).Rd w [.slice a1 n1 c1] cs) (h3:aD.Rd w [.slice a3 n3 c3] bs) (h5:aD.Rd w [.slice a5 n5 c5] sw) (hw:aM (ss,cs,f,bs)<=2097152) (hw5:n5<=2097152):
 Calls Tryz.prog 120 #[.agg #[.slice a0 n0 c0,.slice a1 n1 c1,.bool f,.slice a3 n3 c3],.int .i64 n,.slice a5 n5 c5] w fun e w'=>∃v0 v1 v3,e=.returned (.tuple #[.agg #[v0,v1,.bool f,v3],.bool (da ss cs f bs n sw)])/\(cu 119).Own w' w.heap.size w'.heap.size [v0,v1,.bool f,v3] (ss,dS ss cs f bs n sw,f,dT ss cs f bs n sw)/\Below w.heap.size w w':=by
 obtain ⟨hl0,_,hm0⟩:=ag h0;obtain ⟨hl1,_,hm1⟩:=ag h1;obtain ⟨hl3,_,hm3⟩:=ag h3;obtain ⟨hl5,_,hm5⟩:=ag h5;have hA:Below w.heap.size w ((w.alloc (.cells #[.slice a0 n0 c0,.slice a1 n1 c1,.bool f,.slice a3 n3 c3] 55)).alloc (.cells #[.slice none 0 0,.slice none 0 0,.bool false,.slice none 0 0] 55)):=((Below.refl _ _).alloc (Nat.le_refl _) _).alloc (by simp) _;have xm:Box ((w.alloc (.cells #[.slice a0 n0 c0,.slice a1 n1 c1,.bool f,.slice a3 n3 c3] 55)).alloc (.cells #[.slice none 0 0,.slice none 0 0,.bool false,.slice none 0 0] 55)) w.heap.size 55 #[.slice a0 n0 c0,.slice a1 n1 c1,.bool f,.slice a3 n3 c3]:=(Box.new w _ _).alloc _;have xr:Box ((w.alloc (.cells #[.slice a0 n0 c0,.slice a1 n1 c1,.bool f,.slice a3 n3 c3] 55)).alloc (.cells #[.slice none 0 0,.slice none 0 0,.bool false,.slice none 0 0] 55)) (w.heap.size+1) 55 #[.slice none 0 0,.slice none 0 0,.bool false,.slice none 0 0]:=by
  have:=Box.new (w.alloc (.cells #[.slice a0 n0 c0,.slice a1 n1 c1,.bool f,.slice a3 n3 c3] 55)) 55 #[.slice none 0 0,.slice none 0 0,.bool false,.slice none 0 0];rw [show (w.alloc (.cells #[.slice a0 n0 c0,.slice a1 n1 c1,.bool f,.slice a3 n3 c3] 55)).heap.size=w.heap.size+1 by simp] at this;exact this
 go_enter Tryz.func120,Tryz.ntmps120
 go_wp2_with fail
 generalize hW:(w.alloc (.cells #[.slice a0 n0 c0,.slice a1 n1 c1,.bool f,.slice a3 n3 c3] 55)).alloc (.cells #[.slice none 0 0,.slice none 0 0,.bool false,.slice none 0 0] 55)=W at hA xm xr ⊢;clear hW;have zr:=xr.lt;have B0:=aa hA;clear hA;have XM0:=aa xm;clear xm;have XR0:=aa xr;clear xr;refine (fE _ E _ _ _ _ _ _ _ _ _ ss cs f bs (h0.below B0.out) (h1.below B0.out) (h3.below B0.out) hw).mono ?_
 intro e w1 hc;obtain ⟨b0,b1,b3,e0,e1,e3,m1,m2,rfl,o3,o0,o1,r1,r2,r3,hb1⟩:=de hl0 hl1 hl3 hc;clear hc;have B1:=aa (Below.andThen B0.out hb1);have XM1:=aa (XM0.out.below hb1 (by omega));have XR1:=aa (XR0.out.below hb1 (by omega));have z1:=hb1.size;clear B0 XM0 XR0 hb1;have S1:=aa o0;clear o0;have C1:=aa o1;clear o1;have D1:=aa o3;clear o3;have ba:Below w1.heap.size w1 (w1.alloc (.cells #[.slice b0 n0 e0,.slice b1 n1 e1,.bool f,.slice b3 n3 e3] 55)):=(Below.refl _ _).alloc (Nat.le_refl _) _;have yo:=Box.new w1 55 #[.slice b0 n0 e0,.slice b1 n1 e1,.bool f,.slice b3 n3 e3];have zo:=yo.lt;have B2:=aa (Below.andThen B1.out ba);have XM2:=aa (XM1.out.below ba (by omega));have XR2:=aa (XR1.out.below ba (by omega));have S2:=aa (S1.out.below ba);have C2:=aa (C1.out.below ba);have D2:=aa (D1.out.below ba);have z2:=ba.size;clear B1 XM1 XR1 S1 C1 D1 ba;have XO2:=aa yo;clear yo;have sW:w.heap.size+1<W.heap.size:=zr;obtain ⟨q0,q1,q2,q3⟩:=XM2.out.cells4;go_wp2_with fail
 generalize w1.alloc (.cells #[.slice b0 n0 e0,.slice b1 n1 e1,.bool f,.slice b3 n3 e3] 55)=w2 at B2 XM2 XR2 S2 C2 D2 XO2 z2 zo q0 q1 q2 q3 ⊢;refine (bw _ E _ _ _ _ _ _ _ _ _ ss cs f bs (h0.below B2.out) (h1.below B2.out) (h3.below B2.out) hw).mono ?_
 rintro e w3 ⟨rfl,hb3⟩;clear q0 q1 q2 q3;have B3:=aa (Below.andThen B2.out hb3);have XM3:=aa (XM2.out.below hb3 (by omega));have XR3:=aa (XR2.out.below hb3 (by omega));have S3:=aa (S2.out.below hb3);have C3:=aa (C2.out.below hb3);have D3:=aa (D2.out.below hb3);have XO3:=aa (XO2.out.below hb3 (by omega));have z3:=hb3.size;clear B2 XM2 XR2 S2 C2 D2 XO2 hb3;cases hM:bF ss cs bs
 . have HK:Hid (da ss cs f bs n sw=false/\dS ss cs f bs n sw=cs/\dT ss cs f bs n sw=bs):=by
    have hk:da ss cs f bs n sw=false:=by unfold da;simp [hM]
    unfold dS dT;exact ⟨hk,by rw [hk];rfl,by rw [hk];rfl⟩
   obtain ⟨q0,q1,q2,q3⟩:=XM3.out.cells4;obtain ⟨x0,x1,x2,x3⟩:=XO3.out.cells4;obtain ⟨p0,p1,p2,p3⟩:=XR3.out.cells4;have fz:=XR3.out.frozen;have FIN:=aa (eh (f:=f) B3.out D3.out S3.out C3.out r2 r1 r3 (by omega) sW (by omega));clear B3 XM3 XR3 S3 C3 D3 XO3;go_wp2
   refine bodyPost_ret (v:=.tuple #[.agg #[.slice b0 n0 e0,.slice b1 n1 e1,.bool f,.slice b3 n3 e3],.bool false]) (by simp [results,Tryz.results120,go_sem,p0,p1,p2,p3]) rfl ?_
   exact ⟨_,_,_,by rw [HK.out.1],by rw [HK.out.2.1,HK.out.2.2];exact FIN.out.1,FIN.out.2⟩
 cases f;rotate_left
 . skip
   have HK:Hid (da ss cs true bs n sw=false/\dS ss cs true bs n sw=cs/\dT ss cs true bs n sw=bs):=by
    have hk:da ss cs true bs n sw=false:=by unfold da;simp [hM]
    unfold dS dT;exact ⟨hk,by rw [hk];rfl,by rw [hk];rfl⟩
   obtain ⟨q0,q1,q2,q3⟩:=XM3.out.cells4;obtain ⟨x0,x1,x2,x3⟩:=XO3.out.cells4;obtain ⟨p0,p1,p2,p3⟩:=XR3.out.cells4;have fz:=XR3.out.frozen;have FIN:=aa (eh (f:=true) B3.out D3.out S3.out C3.out r2 r1 r3 (by omega) sW (by omega));clear B3 XM3 XR3 S3 C3 D3 XO3;go_wp2
   refine bodyPost_ret (v:=.tuple #[.agg #[.slice b0 n0 e0,.slice b1 n1 e1,.bool true,.slice b3 n3 e3],.bool false]) (by simp [results,Tryz.results120,go_sem,p0,p1,p2,p3]) rfl ?_
   exact ⟨_,_,_,by rw [HK.out.1],by rw [HK.out.2.1,HK.out.2.2];exact FIN.out.1,FIN.out.2⟩
 obtain ⟨q0,q1,q2,q3⟩:=XM3.out.cells4;have gw:IntKind.i64.wrap ((n0:Int)-1)=(n0:Int)-1:=IntWalk.i64_in _ (by omega);go_wp2_with fail
 refine (aE _ _ _ _).mono ?_
 rintro e w4 ⟨rfl,hw4⟩;have hs4:aP w3 w4:=by rw [hw4];exact aP.refl _
 clear hw4 gw;clear q0 q1 q2 q3;have B4:=aa (Below.andSame B3.out hs4);have XM4:=aa (XM3.out.same hs4);have XR4:=aa (XR3.out.same hs4);have S4:=aa (S3.out.same hs4);have C4:=aa (C3.out.same hs4);have D4:=aa (D3.out.same hs4);have XO4:=aa (XO3.out.same hs4);have z4:=Nat.le_of_eq hs4.size.symm;clear B3 XM3 XR3 S3 C3 D3 XO3 hs4;cases hI:inB n 0 ((n0:Int)-1)
 . have hI2:inB n 0 ((ss.length:Int)-1)=false:=by rw [hl0];exact hI
   have HK:Hid (da ss cs false bs n sw=false/\dS ss cs false bs n sw=cs/\dT ss cs false bs n sw=bs):=by
    have hk:da ss cs false bs n sw=false:=by unfold da;simp [hI2]
    unfold dS dT;exact ⟨hk,by rw [hk];rfl,by rw [hk];rfl⟩
   obtain ⟨q0,q1,q2,q3⟩:=XM4.out.cells4;obtain ⟨x0,x1,x2,x3⟩:=XO4.out.cells4;obtain ⟨p0,p1,p2,p3⟩:=XR4.out.cells4;have fz:=XR4.out.frozen;have FIN:=aa (eh (f:=false) B4.out D4.out S4.out C4.out r2 r1 r3 (by omega) sW (by omega));clear B4 XM4 XR4 S4 C4 D4 XO4;go_wp2
   refine bodyPost_ret (v:=.tuple #[.agg #[.slice b0 n0 e0,.slice b1 n1 e1,.bool false,.slice b3 n3 e3],.bool false]) (by simp [results,Tryz.results120,go_sem,p0,p1,p2,p3]) rfl ?_
   exact ⟨_,_,_,by rw [HK.out.1],by rw [HK.out.2.1,HK.out.2.2];exact FIN.out.1,FIN.out.2⟩
 obtain ⟨q0,q1,q2,q3⟩:=XM4.out.cells4;go_wp2_with fail
 refine (ew _ _ _ _ sw hl5 (aR (h5.below B4.out)).1 hw5).mono ?_
 rintro e w5 ⟨rfl,hs5⟩;clear q0 q1 q2 q3;have B5:=aa (Below.andSame B4.out hs5);have XM5:=aa (XM4.out.same hs5);have XR5:=aa (XR4.out.same hs5);have S5:=aa (S4.out.same hs5);have C5:=aa (C4.out.same hs5);have D5:=aa (D4.out.same hs5);have XO5:=aa (XO4.out.same hs5);have z5:=Nat.le_of_eq hs5.size.symm;clear B4 XM4 XR4 S4 C4 D4 XO4 hs5;cases hS:cR sw
 . have HK:Hid (da ss cs false bs n sw=false/\dS ss cs false bs n sw=cs/\dT ss cs false bs n sw=bs):=by
    have hk:da ss cs false bs n sw=false:=by unfold da;simp [hS]
    unfold dS dT;exact ⟨hk,by rw [hk];rfl,by rw [hk];rfl⟩
   obtain ⟨q0,q1,q2,q3⟩:=XM5.out.cells4;obtain ⟨x0,x1,x2,x3⟩:=XO5.out.cells4;obtain ⟨p0,p1,p2,p3⟩:=XR5.out.cells4;have fz:=XR5.out.frozen;have FIN:=aa (eh (f:=false) B5.out D5.out S5.out C5.out r2 r1 r3 (by omega) sW (by omega));clear B5 XM5 XR5 S5 C5 D5 XO5;go_wp2
   refine bodyPost_ret (v:=.tuple #[.agg #[.slice b0 n0 e0,.slice b1 n1 e1,.bool false,.slice b3 n3 e3],.bool false]) (by simp [results,Tryz.results120,go_sem,p0,p1,p2,p3]) rfl ?_
   exact ⟨_,_,_,by rw [HK.out.1],by rw [HK.out.2.1,HK.out.2.2];exact FIN.out.1,FIN.out.2⟩
 by_cases hL:n1<60
 rotate_left
 . have hL':(60:Int)<=(n1:Int):=by omega
   have hL2:¬cs.length<60:=by omega
   have HK:Hid (da ss cs false bs n sw=false/\dS ss cs false bs n sw=cs/\dT ss cs false bs n sw=bs):=by
    have hk:da ss cs false bs n sw=false:=by unfold da;simp [hL2]
    unfold dS dT;exact ⟨hk,by rw [hk];rfl,by rw [hk];rfl⟩
   obtain ⟨q0,q1,q2,q3⟩:=XM5.out.cells4;obtain ⟨x0,x1,x2,x3⟩:=XO5.out.cells4;obtain ⟨p0,p1,p2,p3⟩:=XR5.out.cells4;have fz:=XR5.out.frozen;have FIN:=aa (eh (f:=false) B5.out D5.out S5.out C5.out r2 r1 r3 (by omega) sW (by omega));clear B5 XM5 XR5 S5 C5 D5 XO5;go_wp2
   refine bodyPost_ret (v:=.tuple #[.agg #[.slice b0 n0 e0,.slice b1 n1 e1,.bool false,.slice b3 n3 e3],.bool false]) (by simp [results,Tryz.results120,go_sem,p0,p1,p2,p3]) rfl ?_
   exact ⟨_,_,_,by rw [HK.out.1],by rw [HK.out.2.1,HK.out.2.2];exact FIN.out.1,FIN.out.2⟩
 have hL':¬(60:Int)<=(n1:Int):=by omega
 have HK:Hid (da ss cs false bs n sw=true/\dS ss cs false bs n sw=cs++[(n,sw)]/\dT ss cs false bs n sw=cX bs n):=by
  have hk:da ss cs false bs n sw=true:=by unfold da;rw [hM,hl0,hI,hS,decide_eq_true (by omega)];rfl
  unfold dS dT;exact ⟨hk,by rw [hk];rfl,by rw [hk];rfl⟩
 clear hM hI hS;obtain ⟨q0,q1,q2,q3⟩:=XM5.out.cells4;obtain ⟨x0,x1,x2,x3⟩:=XO5.out.cells4;have hle:¬(60:Int)<=(n1:Int):=by omega
 have hlw3:n3<=2097152:=by unfold aM at hw;simp only at hw;omega
 go_wp2_with fail
 clear q0 q1 q2 q3;obtain ⟨i1,hi1,hy0,hy1,hy2⟩:=info_parts Tryz.infoWr;obtain ⟨i3,hi3,hx0,hx1,hx2⟩:=info_parts Tryz.info3;obtain ⟨fpC,mC,rC⟩:=C5.out.mine;have MC:=aa mC;have RC:=aa rC;clear mC rC;have HX5:=aa (h5.below B5.out);have L1:Hid (cs.length+1<=maxLen):=by unfold Hid maxLen;omega
 have L2:Hid ((cs.length+1)*32<=140737488355328):=by unfold Hid;omega
 have hS:w5.drew.cell? ⟨w1.heap.size,1,none⟩=some (.slice b1 n1 e1):=XO5.out.cell 1;clear x0 x1 x2 x3 hle;have bA:Below w5.heap.size w5 (w5.alloc (.cells #[] 3)):=(Below.refl _ _).alloc (Nat.le_refl _) _;have hS2:(w5.alloc (.cells #[] 3)).drew.cell? ⟨w1.heap.size,1,none⟩=some (.slice b1 n1 e1):=(XO5.out.alloc (.cells #[] 3)).cell 1;have HG:Hid ((w5.alloc (.cells #[] 3)).drew.heap[w5.heap.size]?=some (.cells #[] 3 (0,0))):=Box.new w5 3 #[];have RD:Hid (aD.Rd (w5.alloc (.cells #[] 3)).drew [.slice a5 n5 c5] sw):=(HX5.out.below bA).drew;have BA:=aa bA;clear bA;refine ao.start (S:=fun w'=>w'.cell? ⟨w1.heap.size,1,none⟩=some (.slice b1 n1 e1)) (k:=10) (by kernel_rfl) ?_
 refine ao.t 0 hS ?_
 refine ao.t 1 hS ?_
 refine ao.t 2 hS ?_
 refine ao.t 4 hS ?_
 refine ao.one (i:=3) (by kernel_rfl) rfl (fun K hK=>?_)
 go_simp
 refine hK.out _ _ (fun _=>hS2) ?_
 clear hK K;refine ao.one (i:=5) (by kernel_rfl) rfl (fun K hK=>?_)
 refine eO (by rfl) _ _ 42 (by rfl) i3 Tryz.underlying42 hi3 hx0 hx1 hx2 w5.heap.size (by rfl) HG.out a5 n5 c5 sw (by rfl) RD.out (by omega) ?_
 intro ac cc wc fpx mx rx tx;have tx':aA [w5.heap.size] (w5.alloc (.cells #[] 3)) wc:=aA.undrew tx;have zA:(w5.alloc (.cells #[] 3)).heap.size=w5.heap.size+1:=by simp
 have zd:(w5.alloc (.cells #[] 3)).drew.heap.size=(w5.alloc (.cells #[] 3)).heap.size:=rfl;have hbc:Below w5.heap.size w5 wc:=BA.out.trans (tx'.below (N:=w5.heap.size) (by omega) (by simp));have RX:Hid (∀b∈fpx,w5.heap.size<=b/\b<wc.heap.size):=fun b hb=>by have:=rx b hb;omega
 have MX:=aa mx;clear mx rx tx tx' zA zd;have xoc:Box wc w1.heap.size 55 _:=XO5.out.below hbc (by omega);have hS3:wc.cell? ⟨w1.heap.size,1,none⟩=some (.slice b1 n1 e1):=xoc.cell 1;have hS4:(wc.alloc (.cells #[.int .i64 n,.slice ac n5 cc] 119)).cell? ⟨w1.heap.size,1,none⟩=some (.slice b1 n1 e1):=(xoc.alloc (.cells #[.int .i64 n,.slice ac n5 cc] 119)).cell 1;have XOC:=aa xoc;have HBC:=aa hbc;clear xoc hbc;refine hK.out _ _ (fun _=>hS3) ?_
 clear hK K;simp only [Act.put,List.setIfInBounds_toArray,List.set_cons_zero,List.set_cons_succ]
 refine ao.t 6 hS3 ?_
 refine ao.one (i:=7) (by kernel_rfl) rfl (fun K hK=>?_)
 go_simp
 refine hK.out _ _ (fun _=>hS4) ?_
 clear hK K;refine ao.one (i:=8) (by kernel_rfl) rfl (fun K hK=>?_)
 refine cS tWr (by rfl) _ _ 53 (by rfl) 119 i1 (.agg #[.int .i64 0,.slice none 0 0]) 32 Tryz.underlying53 hi1 hy0 hy1 hy2 rfl Nat.zero_lt_two (.slice b1 n1 e1) cs fpC (by rfl) ?_ ⟨wc.heap.size,0,none⟩ 1 [.int .i64 n,.slice ac n5 cc] (n,sw) fpx (by rfl) ?_ ?_ ?_ ?_ L1.out L2.out ?_
 . exact (MC.out.below HBC.out).alloc _
 . exact (eE n MX.out).alloc _
 . intro b hb hb'
   have h1:=RC.out b hb;have h2:=RX.out b hb';omega
 . exact bN _ _ _
 . intro u hu
   simp at hu
   rcases hu with hu|hu<;>(rw [hu];rfl)
 intro g cap wA fpA m1' m2' m3';rw [hl1] at m1' ⊢;have zB:(wc.alloc (.cells #[.int .i64 n,.slice ac n5 cc] 119)).heap.size=wc.heap.size+1:=by simp
 have ya:Box wA w1.heap.size 55 _:=(XOC.out.alloc _).turned m3' (fun hm=>by have:=RC.out _ hm;omega);have hS5:wA.cell? ⟨w1.heap.size,1,none⟩=some (.slice b1 n1 e1):=ya.cell 1;have c9:=hS5;have fz:=ya.frozen 1;have YA:=aa ya;have M1:=aa m1';have M2:=aa m2';have M3:=aa m3';have ZB:=aa zB;clear ya m1' m2' m3' zB;refine hK.out _ _ (fun _=>hS5) ?_
 clear hK K;simp only [Act.put,List.setIfInBounds_toArray,List.set_cons_zero,List.set_cons_succ]
 refine ao.t 9 hS5 ?_
 refine ao.one (i:=10) (by kernel_rfl) rfl (fun K hK=>?_)
 go_simp
 refine hK.out _ _ (fun h=>absurd rfl h) ?_
 clear hK K;refine ao.done (by kernel_rfl) ?_ _
 have zc:=HBC.out.size;have zA:=M3.out.size;have zB:=ZB.out;have hb6:But m2 (w1.heap.size+1) w5 (wA.setCell ⟨w1.heap.size,1,none⟩ (.slice (some ⟨g,0,none⟩) (n1+1) cap)):=((But.of_below (Below.andThen HBC.out ((Below.refl _ _).alloc (Nat.le_refl _) _))).trans (M3.out.but (fun b hb=>by have:=RC.out b hb;omega))).trans (But.setCell (by omega) (by omega) _);have rA:∀b∈fpA,m2<=b/\b≠w1.heap.size/\b<wA.heap.size:=fun b hb=>by
  have hlt:=M1.out.lt b hb;rcases M2.out b hb with h|h|h
  . have:=RC.out b h
    omega
  . have:=RX.out b h
    omega
  have:=h.1;omega
 have mZ:=M1.out.setCell (g:=w1.heap.size) (j:=1) (fun hm=>by have:=rA _ hm;omega) (.slice (some ⟨g,0,none⟩) (n1+1) cap);have yZ:=YA.out.set 1 (.slice (some ⟨g,0,none⟩) (n1+1) cap);have zs:wA.heap.size<=(wA.setCell ⟨w1.heap.size,1,none⟩ (.slice (some ⟨g,0,none⟩) (n1+1) cap)).heap.size:=by simp
 have MZ:=aa mZ;have RZ:Hid (∀b∈fpA,m2<=b/\b≠w1.heap.size/\b<(wA.setCell ⟨w1.heap.size,1,none⟩ (.slice (some ⟨g,0,none⟩) (n1+1) cap)).heap.size):=fun b hb=>by have:=rA b hb;omega
 have YZ:=aa yZ;clear mZ rA yZ zs zA zB zc hS hS3 hS4 hS5 c9 fz YA M1 M2 M3 ZB XOC MX RX HBC MC RC HX5 L1 L2 hS2 HG RD BA;clear XO5;clear C5;have B6:=aa (Below.andBut B5.out hb6 (by omega));have XM6:=aa (XM5.out.kept (hb6.block _ (by omega) (by omega)));have XR6:=aa (XR5.out.kept (hb6.block _ (by omega) (by omega)));have S6:=aa (S5.out.but hb6 (by omega));have D6:=aa (D5.out.but hb6 (by omega));have z6:=hb6.size;clear B5 XM5 XR5 S5 D5 hb6;generalize (wA.setCell ⟨w1.heap.size,1,none⟩ (.slice (some ⟨g,0,none⟩) (n1+1) cap))=w6 at B6 XM6 XR6 S6 D6 z6 MZ RZ YZ ⊢;have XO6:Hid (Box w6 w1.heap.size 55 #[.slice b0 n0 e0,.slice (some ⟨g,0,none⟩) (n1+1) cap,.bool false,.slice b3 n3 e3]):=YZ.out;clear YZ;obtain ⟨q0,q1,q2,q3⟩:=XM6.out.cells4;go_wp2_with fail
 refine (oY _ _ _ _ bs n (h3.below B6.out) (by omega)).mono ?_
 rintro e wb ⟨vd,rfl,od,hbB⟩;obtain ⟨d3,f3,hvd⟩:=aC od.rd;subst hvd;have zb:=hbB.size;have xob:Box wb w1.heap.size 55 _:=XO6.out.below hbB (by omega);obtain ⟨x0,x1,x2,x3⟩:=xob.cells4;have fz:=xob.frozen 3;have XOB:=aa xob;have OD:=aa od;have HBB:=aa hbB;clear xob od hbB q0 q1 q2 q3;have bs9:=But.setCell (lo:=w1.heap.size) (hi:=w1.heap.size+1) (g:=w1.heap.size) (j:=3) (w:=wb) (Nat.le_refl _) (Nat.lt_succ_self _) (.slice d3 (cX bs n).length f3);have zt:=bs9.size;have MY:=aa ((MZ.out.below HBB.out).but bs9 (fun b hb=>by have:=RZ.out b hb;omega));have YZ:=aa (XOB.out.set 3 (.slice d3 (cX bs n).length f3));have D7:=aa (OD.out.but bs9 (.inr (by omega)));have S7:=aa ((S6.out.below HBB.out).but bs9 (.inl (by omega)));have XR7:=aa ((XR6.out.below HBB.out (by omega)).kept (bs9.block _ (by omega) (by omega)));have B7:=aa (Below.andBut (Below.andThen B6.out HBB.out) bs9 (by omega));have RY:Hid (∀b∈fpA,m2<=b/\b<w6.heap.size):=fun b hb=>by have:=RZ.out b hb;omega
 have z7:wb.heap.size<=(wb.setCell ⟨w1.heap.size,3,none⟩ (.slice d3 (cX bs n).length f3)).heap.size:=zt;clear bs9 zt XOB OD HBB MZ RZ B6 XM6 XR6 S6 D6 XO6;obtain ⟨t0,t1,t2,t3⟩:=Box.cells4 (v0:=.slice b0 n0 e0) (v1:=.slice (some ⟨g,0,none⟩) (n1+1) cap) (v2:=.bool false) (v3:=.slice d3 (cX bs n).length f3) YZ.out;obtain ⟨p0,p1,p2,p3⟩:=XR7.out.cells4;have fr:=XR7.out.frozen;go_wp2
 generalize (wb.setCell ⟨w1.heap.size,3,none⟩ (.slice d3 (cX bs n).length f3))=w7 at B7 S7 D7 XR7 MY RY YZ z7 p0 p1 p2 p3 fr t0 t1 t2 t3 ⊢;have hbt:But (w.heap.size+1) (w.heap.size+1+1) w7 ((((w7.setCell ⟨w.heap.size+1,0,none⟩ (.slice b0 n0 e0)).setCell ⟨w.heap.size+1,1,none⟩ (.slice (some ⟨g,0,none⟩) (n1+1) cap)).setCell ⟨w.heap.size+1,2,none⟩ (.bool false)).setCell ⟨w.heap.size+1,3,none⟩ (.slice d3 (cX bs n).length f3)):=
  (((But.setCell (by omega) (by omega) _).trans (But.setCell (by omega) (by omega) _)).trans (But.setCell (by omega) (by omega) _)).trans (But.setCell (by omega) (by omega) _)
 have z99:=hbt.size;refine bodyPost_ret (v:=.tuple #[.agg #[.slice b0 n0 e0,.slice (some ⟨g,0,none⟩) (n1+1) cap,.bool false,.slice d3 (cX bs n).length f3],.bool true]) (by simp [results,Tryz.results120,go_sem,p0,p1,p2,p3]) rfl ?_
 have FIN:Hid ((cu 119).Own ((((w7.setCell ⟨w.heap.size+1,0,none⟩ (.slice b0 n0 e0)).setCell ⟨w.heap.size+1,1,none⟩ (.slice (some ⟨g,0,none⟩) (n1+1) cap)).setCell ⟨w.heap.size+1,2,none⟩ (.bool false)).setCell ⟨w.heap.size+1,3,none⟩ (.slice d3 (cX bs n).length f3)) w.heap.size ((((w7.setCell ⟨w.heap.size+1,0,none⟩ (.slice b0 n0 e0)).setCell ⟨w.heap.size+1,1,none⟩ (.slice (some ⟨g,0,none⟩) (n1+1) cap)).setCell ⟨w.heap.size+1,2,none⟩ (.bool false)).setCell ⟨w.heap.size+1,3,none⟩ (.slice d3 (cX bs n).length f3)).heap.size [.slice b0 n0 e0,.slice (some ⟨g,0,none⟩) (n1+1) cap,.bool false,.slice d3 (cX bs n).length f3] (ss,cs++[(n,sw)],false,cX bs n)):=cH (S7.out.but hbt (by omega)) ((MY.out.own (lo:=m2) (hi:=w6.heap.size) (fun b hb=>RY.out b hb)).but hbt (by omega)) (D7.out.but hbt (by omega)) (by omega) (by omega) (by omega) (by omega) (by omega) (by omega);have FB:=aa (Below.andBut B7.out hbt (by omega));exact ⟨_,_,_,by rw [HK.out.1],by rw [HK.out.2.1,HK.out.2.2];exact FIN.out,FB.out⟩
def ok8 (x:aq) (ms:List ai) (ds:List (Int×List Int)) (s:Int):Bool:=if at8 ds s=-1 then !x.xX&&cV x ms s else true
def fO (x:aq) (ms:List ai) (ds:List (Int×List Int)) (s:Int):List Int:=if at8 ds s=-1 then (if x.xX=true then [] else gd x ms s) else (ds.getD (at8 ds s).toNat (0,[])).2
theorem qD (w:World) (E F G:TypeId) (x:aq) (am ad:Option Addr) (nm cm nd cd:Nat) (ms:List ai) (ds:List (Int×List Int)) (s:Int) (h0:(bI E F).Rd w [.slice am nm cm] ms) (h1:(aW G).Rd w [.slice ad nd cd] ds) (hw:bh ms ds<=2097152) (hg:bL x.n x.s=true) (ht:inB s 0 (x.s-1)=true):
 Calls Tryz.prog 128 #[.agg #[.int .i64 x.id,.int .i64 x.n,.int .i64 x.s,.slice am nm cm,.int .i64 x.lost,.int .i64 x.xW,.int .i64 x.seq,.int .i64 x.tail,.int .i64 x.gen,.slice ad nd cd,.int .i64 x.xY,.bool x.down,.bool x.xX],.int .i64 s] w fun e w'=>∃a' l' c',e=.returned (.tuple #[.slice a' l' c',.bool (ok8 x ms ds s)])/\aD.Own w' w.heap.size w'.heap.size [.slice a' l' c'] (fO x ms ds s)/\Below w.heap.size w w':=by
 obtain ⟨i0,hi,hz0,hz1,hz2⟩:=info_parts Tryz.info3;have hwm:aQ ms<=2097152:=by unfold bh at hw;omega
 have hwd:aX ds<=2097152:=by unfold bh at hw;omega
 obtain ⟨hl1,_,_⟩:=ag h1;have hnd:nd<=2097152:=by unfold aX at hwd;omega
 have hA:=af w (.cells #[.int .i64 x.id,.int .i64 x.n,.int .i64 x.s,.slice am nm cm,.int .i64 x.lost,.int .i64 x.xW,.int .i64 x.seq,.int .i64 x.tail,.int .i64 x.gen,.slice ad nd cd,.int .i64 x.xY,.bool x.down,.bool x.xX] 31);have X0:=Box.new w 31 #[.int .i64 x.id,.int .i64 x.n,.int .i64 x.s,.slice am nm cm,.int .i64 x.lost,.int .i64 x.xW,.int .i64 x.seq,.int .i64 x.tail,.int .i64 x.gen,.slice ad nd cd,.int .i64 x.xY,.bool x.down,.bool x.xX];have zX:=X0.lt;have r0:=h0.below hA;have r1:=h1.below hA;obtain ⟨k0,k1,k2,k3,k4,k5,k6,k7,k8,k9,k10,k11,k12⟩:=X0.cells13;go_enter Tryz.func128,Tryz.ntmps128
 go_wp2_with fail
 generalize w.alloc (.cells #[.int .i64 x.id,.int .i64 x.n,.int .i64 x.s,.slice am nm cm,.int .i64 x.lost,.int .i64 x.xW,.int .i64 x.seq,.int .i64 x.tail,.int .i64 x.gen,.slice ad nd cd,.int .i64 x.xY,.bool x.down,.bool x.xX] 31)=W at hA X0 zX r0 r1 k0 k1 k2 k3 k4 k5 k6 k7 k8 k9 k10 k11 k12 ⊢;refine (rI _ G x _ _ _ _ _ _ ds s r1 hnd).mono ?_
 rintro e w1 ⟨rfl,b1⟩;have X1:=X0.below b1 zX;have p0:=r0.below b1;have p1:=r1.below b1;have B1:=Below.andThen hA b1;clear k0 k1 k2 k3 k4 k5 k6 k7 k8 k9 k10 k11 k12 X0 r0 r1 b1 hA zX;obtain ⟨k0,k1,k2,k3,k4,k5,k6,k7,k8,k9,k10,k11,k12⟩:=X1.cells13;rcases iA ds s with hat|⟨j,d,hat,hdj,hds⟩
 . have HK:Hid (ok8 x ms ds s=(!x.xX&&cV x ms s)):=by unfold Hid ok8;rw [if_pos hat]
   have HD:Hid (fO x ms ds s=if x.xX=true then [] else gd x ms s):=by unfold Hid fO;rw [if_pos hat]
   rw [hat];clear hat;cases hbr:x.xX
   . have HK2:Hid (ok8 x ms ds s=cV {x with xX:=false} ms s):=by unfold Hid;rw [HK.out,hbr];rfl
     have HD2:Hid (fO x ms ds s=gd {x with xX:=false} ms s):=by unfold Hid;rw [HD.out,hbr,if_neg (by simp)];rfl
     rw [hbr] at k12;clear hbr HK HD;go_wp2_with fail
     refine (tc _ E F {x with xX:=false} _ _ _ _ _ _ ms s p0 hwm hg ht).mono ?_
     rintro e w2 ⟨a2,l2,c2,rfl,o2,b2⟩;have HO:=aa (o2.widen (lo':=w.heap.size) (hi':=w2.heap.size) B1.size (Nat.le_refl _));have HB:=aa (Below.andThen B1 b2);clear o2 b2 B1 X1 p0 p1 k0 k1 k2 k3 k4 k5 k6 k7 k8 k9 k10 k11 k12;go_wp2
     refine bodyPost_ret (v:=.tuple #[.slice a2 l2 c2,.bool (cV {x with xX:=false} ms s)]) (by simp [results,Tryz.results128,go_sem]) rfl ?_
     exact ⟨a2,l2,c2,by rw [HK2.out],by rw [HD2.out];exact HO.out,HB.out⟩
   have HK2:Hid (ok8 x ms ds s=false):=by unfold Hid;rw [HK.out,hbr];rfl
   have HD2:Hid (fO x ms ds s=[]):=by unfold Hid;rw [HD.out,hbr,if_pos rfl]
   rw [hbr] at k12;clear hbr HK HD;have HO:=aa ((aS (bk.lit .i64 3 w1 [] 0 #[] rfl rfl (by unfold maxLen;omega))).widen (lo':=w.heap.size) B1.size (Nat.le_refl _));have HB:=aa (Below.andThen B1 (af w1 (.cells #[] 3)));clear B1 X1 p0 p1;go_wp2
   refine bodyPost_ret (v:=.tuple #[.slice (some ⟨w1.heap.size,0,none⟩) 0 0,.bool false]) (by simp [results,Tryz.results128,go_sem]) rfl ?_
   exact ⟨_,_,_,by rw [HK2.out],by rw [HD2.out];exact HO.out,HB.out⟩
 have HK:Hid (ok8 x ms ds s=true):=by unfold Hid ok8;rw [if_neg (by omega)]
 have HD:Hid (fO x ms ds s=d.2):=by unfold Hid fO;rw [if_neg (by omega),hat,Int.toNat_natCast,List.getD_eq_getElem?_getD,hdj];rfl
 have hjl:=(List.getElem?_eq_some_iff.1 hdj).1;have hil:=cK hdj;rcases cW rfl p1 with h9|⟨b,off,rfl,hbl,hcs⟩
 . omega
 obtain ⟨u0,u1,hv0,hv1,hrv⟩:=hcs j d hdj;obtain ⟨rfl,hrv'⟩:=eL hrv;obtain ⟨av,cv,rfl⟩:=aC hrv';rw [hat];obtain ⟨y,ys⟩:=d;simp only at hv0 hv1 hrv' hil HD
 have hB:=af w1 (.cells #[] 3);have hO:bk .i64 3 (w1.alloc (.cells #[] 3)) w1.heap.size (.slice (some ⟨w1.heap.size,0,none⟩) 0 0) []:=bk.lit .i64 3 w1 [] 0 #[] rfl rfl (by unfold maxLen;omega);have q0:=(hB.cell (p:=⟨b,off+j*2,none⟩) hbl).trans hv0;have q1:=(hB.cell (p:=⟨b,off+j*2+1,none⟩) hbl).trans hv1;have c9:=(hB.cell (p:=⟨w.heap.size,9,none⟩) X1.lt).trans k9;have k1:(0:Int)<=(j:Int):=by omega
 have k2:(j:Int)<(nd:Int):=by omega
 have rv:=hrv'.below hB;have BB:=aa (Below.andThen B1 hB);have HR:=aa rv;obtain ⟨hr,hl,_,_⟩:=aR rv;have zB:=B1.size;clear hat hdj hds hcs hrv hrv' B1 X1 p0 p1 hB rv;match av,hr,HR with
 | none,_,HR=>
  have hn:=mX HR.out;obtain ⟨hn0,hc0,hy0⟩:=hn;subst hc0;have hn0':ys.length=0:=hn0;rw [hn0'] at q1 hv1;have FO:=aa ((aS hO).widen (lo':=w.heap.size) zB (Nat.le_refl _));go_wp2_with (at_builtin;refine wpList_append_own_none rfl _ _ 42 rfl w1.heap.size 3 i0 1 Tryz.underlying42 hi _ 0 [] rfl hO rfl ?_)
  refine bodyPost_ret (v:=.tuple #[.slice (some ⟨w1.heap.size,0,none⟩) 0 0,.bool true]) (by simp [results,Tryz.results128,go_sem]) rfl ?_
  exact ⟨_,_,_,by rw [HK.out],by rw [HD.out,hy0];exact FO.out,BB.out⟩
 | some adr,hr,_=>
  go_wp2_with (at_builtin;refine dt .i64 rfl _ _ 42 rfl w1.heap.size 3 i0 (.int .i64 0) 8 Tryz.underlying42 hi hz0 hz1 hz2 rfl _ [] rfl hO adr ys.length cv ys rfl rfl hr (by unfold maxLen;simp;omega) (by simp;omega) (by simp) ?_;intro v' w2 ho1 hb1;obtain ⟨a1,c1,hv1',_⟩:=ho1.shape;rw [List.nil_append] at hv1' ho1;subst hv1')
  have FO:=aa ((aS ho1).widen (lo':=w.heap.size) zB (Nat.le_refl _));have FB:=aa (BB.out.trans (hb1.mono zB));refine bodyPost_ret (v:=.tuple #[.slice a1 ys.length c1,.bool true]) (by simp [results,Tryz.results128,go_sem]) rfl ?_
  exact ⟨_,_,_,by rw [HK.out],by rw [HD.out];exact FO.out,FB.out⟩
theorem qM {bs:List Int} (ha:∀i,i+1<bs.length->bs.getD i 0<bs.getD (i+1) 0):bs.Pairwise (·<·):=by
 have mono:∀d i,i+(d+1)<bs.length->bs.getD i 0<bs.getD (i+(d+1)) 0:=by
  intro d;induction d with
  | zero=>intro i hi;exact ha i hi
  | succ d ih=>
   intro i hi;have h1:=ih i (by omega);have h2:=ha (i+(d+1)) (by omega);have e:i+(d+1)+1=i+(d+1+1):=by omega
   rw [e] at h2;omega
 rw [List.pairwise_iff_getElem];intro i j hi hj hij;have h:=mono (j-i-1) i (by omega);have e:i+(j-i-1+1)=j:=by omega
 rw [e,List.getD_eq_getElem?_getD,List.getD_eq_getElem?_getD,List.getElem?_eq_getElem hi,List.getElem?_eq_getElem hj] at h;exact h
theorem nV (n:Int) (bs:List Int):iJ n bs=true ↔ (∀x∈bs,0<=x/\x<=n-1)/\bs.Pairwise (·<·):=by
 unfold iJ;rw [List.all_eq_true];constructor
 . intro h
   refine ⟨fun x hx=>?_,qM (fun i hi=>?_)⟩
   . obtain ⟨i,hi⟩:=List.mem_iff_getElem?.1 hx
     have hil:i<bs.length:=(List.getElem?_eq_some_iff.1 hi).1;have h1:=h i (List.mem_range.2 hil);unfold dV inB at h1;rw [List.getD_eq_getElem?_getD,hi] at h1;simp at h1
     omega
   have h1:=h (i+1) (List.mem_range.2 hi);unfold dV at h1;simp at h1
   rw [List.getD_eq_getElem?_getD,List.getD_eq_getElem?_getD];exact h1.2
 rintro ⟨h1,h2⟩ i hi;have hil:i<bs.length:=List.mem_range.1 hi;unfold dV inB;have e:bs.getD i 0=bs[i]:=by rw [List.getD_eq_getElem?_getD,List.getElem?_eq_getElem hil];rfl
 have h3:=h1 bs[i] (List.getElem_mem hil);rw [e];simp only [Bool.and_eq_true,Bool.or_eq_true,decide_eq_true_eq]
 refine ⟨⟨by omega,by omega⟩,?_⟩
 by_cases h0:i=0
 . exact .inl h0
 right
 have h4:=List.pairwise_iff_getElem.1 h2 (i-1) i (by omega) hil (by omega);rw [List.getD_eq_getElem?_getD,List.getElem?_eq_getElem (by omega:i-1<bs.length)];exact h4
theorem eB (ss:List (List Int)) (cs:List (Int×List Int)) (bs:List Int):bF ss cs bs=true ↔ (∀x∈ss,cR x=true)/\(∀x∈cs,wrB ss.length x=true)/\iJ ss.length bs=true/\inB ss.length 1 20=true/\cs.length<=60:=by
 unfold bF;simp only [Bool.and_eq_true,List.all_eq_true,decide_eq_true_eq]
theorem nX {ss:List (List Int)} {cs:List (Int×List Int)} {bs:List Int} (h:bF ss cs bs=true) (ks:List (Int×List Int)) (hk:∀x∈ks,x∈cs):bF (dJ ss ks) [] bs=true:=by
 obtain ⟨h1,h2,h3,h4,_⟩:=(eB _ _ _).1 h;rw [eB,cD];refine ⟨fun x hx=>?_,by simp,h3,h4,by simp⟩
 unfold dJ at hx;obtain ⟨k,hkr,rfl⟩:=List.mem_map.1 hx;have hkl:k<ss.length:=List.mem_range.1 hkr;cases hl:cB ks (k:Int) with
 | some zs=>
  have h5:=h2 _ (hk _ (lr hl));unfold wrB at h5;simp only [Bool.and_eq_true] at h5
  exact h5.2
 | none=>exact h1 _ (List.mem_of_getElem? (lu hkl))
theorem nY {ss:List (List Int)} {cs:List (Int×List Int)} {f:Bool} {bs:List Int} {n:Int} {sw:List Int} (h:da ss cs f bs n sw=true):bF ss (cs++[(n,sw)]) (cX bs n)=true:=by
 unfold da at h;simp only [Bool.and_eq_true,decide_eq_true_eq] at h
 obtain ⟨hM,_,hI,hS,hL⟩:=h;obtain ⟨h1,h2,h3,h4,_⟩:=(eB _ _ _).1 hM;rw [eB];refine ⟨h1,fun x hx=>?_,?_,h4,by rw [List.length_append];simp;omega⟩
 . rcases List.mem_append.1 hx with hx|hx
   . exact h2 x hx
   simp at hx
   subst hx;unfold wrB;rw [hI,hS];rfl
 rw [nV] at h3 ⊢;exact ⟨fun x hx=>h3.1 x (List.mem_filter.1 hx).1,h3.2.filter _⟩
theorem nZ {ss:List (List Int)} {cs:List (Int×List Int)} {bs:List Int} {n:Int} (h:lM ss cs bs n=true):bF ss cs (lN bs n)=true:=by
 unfold lM at h;simp only [Bool.and_eq_true,Bool.not_eq_true'] at h
 obtain ⟨hM,hI,hH⟩:=h;have hasc:=vZ hM;obtain ⟨h1,h2,h3,h4,h5⟩:=(eB _ _ _).1 hM;rw [eB];refine ⟨h1,h2,?_,h4,h5⟩
 rw [nV] at h3 ⊢;have hn:∀x∈bs,x≠n:=by
  intro x hx e;unfold inL at hH;rw [List.any_eq_false] at hH;exact hH x hx (by simp [e])
 unfold inB at hI;simp at hI
 refine ⟨fun x hx=>?_,?_⟩
 . unfold lN at hx
   rcases List.mem_append.1 hx with hx|hx
   . exact h3.1 x (List.mem_of_mem_take hx)
   rcases List.mem_cons.1 hx with rfl|hx
   . omega
   exact h3.1 x (List.mem_of_mem_drop hx)
 have hp:=h3.2;have hle:∀(l:List Int),l.Pairwise (·<·)->(∀x∈l,x≠n)->∃k,k<=l.length/\(∀x∈l.take k,x<=n)/\(∀x∈l.drop k,n<x):=by
  intro l;induction l with
  | nil=>intro _ _;exact ⟨0,by simp,by simp,by simp⟩
  | cons y l ih=>
   intro hp hne;rw [List.pairwise_cons] at hp;by_cases hy:y<=n
   . obtain ⟨k,k1,k2,k3⟩:=ih hp.2 (fun x hx=>hne x (List.mem_cons_of_mem _ hx))
     refine ⟨k+1,by simp;omega,fun x hx=>?_,by simpa using k3⟩
     rw [List.take_succ_cons] at hx;rcases List.mem_cons.1 hx with rfl|hx
     . exact hy
     exact k2 x hx
   refine ⟨0,by simp,by simp,fun x hx=>?_⟩
   rw [List.drop_zero] at hx;rcases List.mem_cons.1 hx with rfl|hx
   . omega
   have:=hp.1 x hx;omega
 obtain ⟨k,k1,k2,k3⟩:=hle bs hp hn;rw [tm k2 k3 k1];rw [List.pairwise_append,List.pairwise_cons];refine ⟨hp.sublist (List.take_sublist _ _),⟨k3,hp.sublist (List.drop_sublist _ _)⟩,fun a ha b hb=>?_⟩
 have h6:=k2 a ha;have h7:=hn a (List.mem_of_mem_take ha);rcases List.mem_cons.1 hb with rfl|hb
 . omega
 have:=k3 b hb;omega
theorem oe {n:Int} (h1:1<=n) (h2:n<=20):bF (bC n) [] []=true:=by
 rw [eB];unfold bC;rw [if_pos ⟨h1,h2⟩];refine ⟨fun x hx=>?_,by simp,by rw [nV];simp,?_,by simp⟩
 . rw [List.eq_of_mem_replicate hx]
   decide
 unfold inB;simp
 omega
end Go.Proofs.YtgjomldcnjjpaaaGreat
