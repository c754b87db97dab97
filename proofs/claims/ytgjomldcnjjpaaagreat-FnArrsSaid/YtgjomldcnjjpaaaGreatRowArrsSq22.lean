/-
 The walks of the program's states of a disk: which one it is in, whether it bears a stripe, and what it reads. Condition: the array weighs at most 2097152.
-/
import Derived.Test.YtgjomldcnjjpaaaGreatRowArrsSq1
import Derived.Test.YtgjomldcnjjpaaaGreatRowArrsSq19
import Derived.Test.YtgjomldcnjjpaaaGreatRowArrsSq11
import Derived.Test.YtgjomldcnjjpaaaGreatRowArrsSq5
import Derived.Test.YtgjomldcnjjpaaaGreatRowArrsSq3
import Derived.Test.YtgjomldcnjjpaaaGreatRowArrsSq20
import Derived.Test.YtgjomldcnjjpaaaGreatRowArrsSq6
import Derived.Test.YtgjomldcnjjpaaaGreatRowArrsSq10
import Derived.Test.YtgjomldcnjjpaaaGreatRowArrsSq2
import Derived.BigQuiet
import Derived.WalkSmall
import Derived.Handy

set_option maxRecDepth 100000
set_option maxHeartbeats 8000000
set_option linter.unusedSimpArgs false

namespace Go.Proofs.YtgjomldcnjjpaaaGreat
open Go.RowKit

def da (ss:List (List Int)) (cs:List (Int×List Int)) (f:Bool) (bs:List Int) (n:Int) (sw:List Int):Bool:=bF ss cs bs&&(!f&&(inB n 0 ((ss.length:Int)-1)&&(cR sw&&decide (cs.length<60))))
def dS (ss:List (List Int)) (cs:List (Int×List Int)) (f:Bool) (bs:List Int) (n:Int) (sw:List Int):List (Int×List Int):=if da ss cs f bs n sw=true then cs++[(n,sw)] else cs
def dT (ss:List (List Int)) (cs:List (Int×List Int)) (f:Bool) (bs:List Int) (n:Int) (sw:List Int):List Int:=if da ss cs f bs n sw=true then cX bs n else bs
theorem dy (w:World) (E:TypeId) (a0 a1 a3 a5:Option Addr) (n0 c0 n1 c1 n3 c3 n5 c5:Nat) (ss:List (List Int)) (cs:List (Int×List Int)) (f:Bool) (bs:List Int) (n:Int) (sw:List Int) (h0:aU.Rd w [.slice a0 n0 c0] ss) (h1:(aW E).Rd w [.slice a1 n1 c1] cs) (h3:aD.Rd w [.slice a3 n3 c3] bs) (h5:aD.Rd w [.slice a5 n5 c5] sw) (hw:aM (ss,cs,f,bs)<=2097152) (hw5:n5<=2097152):
 Calls Tryz.prog 59 #[.agg #[.slice a0 n0 c0,.slice a1 n1 c1,.bool f,.slice a3 n3 c3],.int .i64 n,.slice a5 n5 c5] w fun e w'=>∃v0 v1 v3,e=.returned (.tuple #[.agg #[v0,v1,.bool f,v3],.bool (da ss cs f bs n sw)])/\(cu 119).Own w' w.heap.size w'.heap.size [v0,v1,.bool f,v3] (ss,dS ss cs f bs n sw,f,dT ss cs f bs n sw)/\Below w.heap.size w w':=by
 obtain ⟨hl0,_,hm0⟩:=ag h0;obtain ⟨hl1,_,hm1⟩:=ag h1;obtain ⟨hl3,_,hm3⟩:=ag h3;obtain ⟨hl5,_,hm5⟩:=ag h5;have hA:Below w.heap.size w (((w.alloc (.cells #[.slice a0 n0 c0,.slice a1 n1 c1,.bool f,.slice a3 n3 c3] 55)).alloc (.cells #[.int .i64 n] 3)).alloc (.cells #[.slice none 0 0,.slice none 0 0,.bool false,.slice none 0 0] 55)):=(((Below.refl _ _).alloc (Nat.le_refl _) _).alloc (by simp) _).alloc (by simp;omega) _;have xm:Box (((w.alloc (.cells #[.slice a0 n0 c0,.slice a1 n1 c1,.bool f,.slice a3 n3 c3] 55)).alloc (.cells #[.int .i64 n] 3)).alloc (.cells #[.slice none 0 0,.slice none 0 0,.bool false,.slice none 0 0] 55)) w.heap.size 55 #[.slice a0 n0 c0,.slice a1 n1 c1,.bool f,.slice a3 n3 c3]:=((Box.new w _ _).alloc _).alloc _;have xn:Box (((w.alloc (.cells #[.slice a0 n0 c0,.slice a1 n1 c1,.bool f,.slice a3 n3 c3] 55)).alloc (.cells #[.int .i64 n] 3)).alloc (.cells #[.slice none 0 0,.slice none 0 0,.bool false,.slice none 0 0] 55)) (w.heap.size+1) 3 #[.int .i64 n]:=by
  have:=Box.new (w.alloc (.cells #[.slice a0 n0 c0,.slice a1 n1 c1,.bool f,.slice a3 n3 c3] 55)) 3 #[.int .i64 n];rw [show (w.alloc (.cells #[.slice a0 n0 c0,.slice a1 n1 c1,.bool f,.slice a3 n3 c3] 55)).heap.size=w.heap.size+1 by simp] at this;exact this.alloc _
 have xr:Box (((w.alloc (.cells #[.slice a0 n0 c0,.slice a1 n1 c1,.bool f,.slice a3 n3 c3] 55)).alloc (.cells #[.int .i64 n] 3)).alloc (.cells #[.slice none 0 0,.slice none 0 0,.bool false,.slice none 0 0] 55)) (w.heap.size+2) 55 #[.slice none 0 0,.slice none 0 0,.bool false,.slice none 0 0]:=by
  have:=Box.new ((w.alloc (.cells #[.slice a0 n0 c0,.slice a1 n1 c1,.bool f,.slice a3 n3 c3] 55)).alloc (.cells #[.int .i64 n] 3)) 55 #[.slice none 0 0,.slice none 0 0,.bool false,.slice none 0 0];rw [show ((w.alloc (.cells #[.slice a0 n0 c0,.slice a1 n1 c1,.bool f,.slice a3 n3 c3] 55)).alloc (.cells #[.int .i64 n] 3)).heap.size=w.heap.size+2 by simp] at this;exact this
 go_enter Tryz.func59,Tryz.ntmps59
 go_wp2_with fail
 generalize hW:((w.alloc (.cells #[.slice a0 n0 c0,.slice a1 n1 c1,.bool f,.slice a3 n3 c3] 55)).alloc (.cells #[.int .i64 n] 3)).alloc (.cells #[.slice none 0 0,.slice none 0 0,.bool false,.slice none 0 0] 55)=W at hA xm xn xr ⊢;clear hW;have zr:=xr.lt;have B0:=aa hA;clear hA;have XM0:=aa xm;clear xm;have XN0:=aa xn;clear xn;have XR0:=aa xr;clear xr;refine (eP _ E _ _ _ _ _ _ _ _ _ ss cs f bs (h0.below B0.out) (h1.below B0.out) (h3.below B0.out) hw).mono ?_
 intro e w1 hc;obtain ⟨b0,b1,b3,e0,e1,e3,m1,m2,rfl,o3,o0,o1,r1,r2,r3,hb1⟩:=de hl0 hl1 hl3 hc;clear hc;have B1:=aa (Below.andThen B0.out hb1);have XM1:=aa (XM0.out.below hb1 (by omega));have XN1:=aa (XN0.out.below hb1 (by omega));have XR1:=aa (XR0.out.below hb1 (by omega));have z1:=hb1.size;clear B0 XM0 XN0 XR0 hb1;have S1:=aa o0;clear o0;have C1:=aa o1;clear o1;have D1:=aa o3;clear o3;have ba:Below w1.heap.size w1 (w1.alloc (.cells #[.slice b0 n0 e0,.slice b1 n1 e1,.bool f,.slice b3 n3 e3] 55)):=(Below.refl _ _).alloc (Nat.le_refl _) _;have yo:=Box.new w1 55 #[.slice b0 n0 e0,.slice b1 n1 e1,.bool f,.slice b3 n3 e3];have zo:=yo.lt;have B2:=aa (Below.andThen B1.out ba);have XM2:=aa (XM1.out.below ba (by omega));have XN2:=aa (XN1.out.below ba (by omega));have XR2:=aa (XR1.out.below ba (by omega));have S2:=aa (S1.out.below ba);have C2:=aa (C1.out.below ba);have D2:=aa (D1.out.below ba);have z2:=ba.size;clear B1 XM1 XN1 XR1 S1 C1 D1 ba;have XO2:=aa yo;clear yo;have sW:w.heap.size+2<W.heap.size:=zr;obtain ⟨q0,q1,q2,q3⟩:=XM2.out.cells4;go_wp2_with fail
 generalize w1.alloc (.cells #[.slice b0 n0 e0,.slice b1 n1 e1,.bool f,.slice b3 n3 e3] 55)=w2 at B2 XM2 XN2 XR2 S2 C2 D2 XO2 z2 zo q0 q1 q2 q3 ⊢;refine (bG _ E _ _ _ _ _ _ _ _ _ ss cs f bs (h0.below B2.out) (h1.below B2.out) (h3.below B2.out) hw).mono ?_
 rintro e w3 ⟨rfl,hb3⟩;clear q0 q1 q2 q3;have B3:=aa (Below.andThen B2.out hb3);have XM3:=aa (XM2.out.below hb3 (by omega));have XN3:=aa (XN2.out.below hb3 (by omega));have XR3:=aa (XR2.out.below hb3 (by omega));have S3:=aa (S2.out.below hb3);have C3:=aa (C2.out.below hb3);have D3:=aa (D2.out.below hb3);have XO3:=aa (XO2.out.below hb3 (by omega));have z3:=hb3.size;clear B2 XM2 XN2 XR2 S2 C2 D2 XO2 hb3;cases hM:bF ss cs bs
 . have HK:Hid (da ss cs f bs n sw=false/\dS ss cs f bs n sw=cs/\dT ss cs f bs n sw=bs):=by
    have hk:da ss cs f bs n sw=false:=by unfold da;simp [hM]
    unfold dS dT;exact ⟨hk,by rw [hk];rfl,by rw [hk];rfl⟩
   obtain ⟨q0,q1,q2,q3⟩:=XM3.out.cells4;obtain ⟨x0,x1,x2,x3⟩:=XO3.out.cells4;obtain ⟨p0,p1,p2,p3⟩:=XR3.out.cells4;have fz:=XR3.out.frozen;have FIN:=aa (eh (f:=f) B3.out D3.out S3.out C3.out r2 r1 r3 (by omega) sW (by omega));clear B3 XM3 XN3 XR3 S3 C3 D3 XO3;go_wp2
   refine bodyPost_ret (v:=.tuple #[.agg #[.slice b0 n0 e0,.slice b1 n1 e1,.bool f,.slice b3 n3 e3],.bool false]) (by simp [results,Tryz.results59,go_sem,p0,p1,p2,p3]) rfl ?_
   exact ⟨_,_,_,by rw [HK.out.1],by rw [HK.out.2.1,HK.out.2.2];exact FIN.out.1,FIN.out.2⟩
 cases f;rotate_left
 . skip
   have HK:Hid (da ss cs true bs n sw=false/\dS ss cs true bs n sw=cs/\dT ss cs true bs n sw=bs):=by
    have hk:da ss cs true bs n sw=false:=by unfold da;simp [hM]
    unfold dS dT;exact ⟨hk,by rw [hk];rfl,by rw [hk];rfl⟩
   obtain ⟨q0,q1,q2,q3⟩:=XM3.out.cells4;obtain ⟨x0,x1,x2,x3⟩:=XO3.out.cells4;obtain ⟨p0,p1,p2,p3⟩:=XR3.out.cells4;have fz:=XR3.out.frozen;have FIN:=aa (eh (f:=true) B3.out D3.out S3.out C3.out r2 r1 r3 (by omega) sW (by omega));clear B3 XM3 XN3 XR3 S3 C3 D3 XO3;go_wp2
   refine bodyPost_ret (v:=.tuple #[.agg #[.slice b0 n0 e0,.slice b1 n1 e1,.bool true,.slice b3 n3 e3],.bool false]) (by simp [results,Tryz.results59,go_sem,p0,p1,p2,p3]) rfl ?_
   exact ⟨_,_,_,by rw [HK.out.1],by rw [HK.out.2.1,HK.out.2.2];exact FIN.out.1,FIN.out.2⟩
 obtain ⟨q0,q1,q2,q3⟩:=XM3.out.cells4;have qn:w3.cell? ⟨w.heap.size+1,0,none⟩=some (.int .i64 n):=XN3.out.cell 0;go_wp2_with fail
 refine (di _ _ _ _ _ _ _ _).mono ?_
 rintro e w4 ⟨rfl,hb4⟩;clear q0 q1 q2 q3;clear qn;have B4:=aa (Below.andThen B3.out hb4);have XM4:=aa (XM3.out.below hb4 (by omega));have XN4:=aa (XN3.out.below hb4 (by omega));have XR4:=aa (XR3.out.below hb4 (by omega));have S4:=aa (S3.out.below hb4);have C4:=aa (C3.out.below hb4);have D4:=aa (D3.out.below hb4);have XO4:=aa (XO3.out.below hb4 (by omega));have z4:=hb4.size;clear B3 XM3 XN3 XR3 S3 C3 D3 XO3 hb4;cases hI:inB n 0 ((n0:Int)-1)
 . have hI2:inB n 0 ((ss.length:Int)-1)=false:=by rw [hl0];exact hI
   have HK:Hid (da ss cs false bs n sw=false/\dS ss cs false bs n sw=cs/\dT ss cs false bs n sw=bs):=by
    have hk:da ss cs false bs n sw=false:=by unfold da;simp [hI2]
    unfold dS dT;exact ⟨hk,by rw [hk];rfl,by rw [hk];rfl⟩
   obtain ⟨q0,q1,q2,q3⟩:=XM4.out.cells4;obtain ⟨x0,x1,x2,x3⟩:=XO4.out.cells4;obtain ⟨p0,p1,p2,p3⟩:=XR4.out.cells4;have fz:=XR4.out.frozen;have FIN:=aa (eh (f:=false) B4.out D4.out S4.out C4.out r2 r1 r3 (by omega) sW (by omega));clear B4 XM4 XN4 XR4 S4 C4 D4 XO4;go_wp2
   refine bodyPost_ret (v:=.tuple #[.agg #[.slice b0 n0 e0,.slice b1 n1 e1,.bool false,.slice b3 n3 e3],.bool false]) (by simp [results,Tryz.results59,go_sem,p0,p1,p2,p3]) rfl ?_
   exact ⟨_,_,_,by rw [HK.out.1],by rw [HK.out.2.1,HK.out.2.2];exact FIN.out.1,FIN.out.2⟩
 obtain ⟨q0,q1,q2,q3⟩:=XM4.out.cells4;go_wp2_with fail
 refine (cN _ _ _ _ sw hl5 (aR (h5.below B4.out)).1 hw5).mono ?_
 rintro e w5 ⟨rfl,hs5⟩;clear q0 q1 q2 q3;have B5:=aa (Below.andSame B4.out hs5);have XM5:=aa (XM4.out.same hs5);have XN5:=aa (XN4.out.same hs5);have XR5:=aa (XR4.out.same hs5);have S5:=aa (S4.out.same hs5);have C5:=aa (C4.out.same hs5);have D5:=aa (D4.out.same hs5);have XO5:=aa (XO4.out.same hs5);have z5:=Nat.le_of_eq hs5.size.symm;clear B4 XM4 XN4 XR4 S4 C4 D4 XO4 hs5;cases hS:cR sw
 . have HK:Hid (da ss cs false bs n sw=false/\dS ss cs false bs n sw=cs/\dT ss cs false bs n sw=bs):=by
    have hk:da ss cs false bs n sw=false:=by unfold da;simp [hS]
    unfold dS dT;exact ⟨hk,by rw [hk];rfl,by rw [hk];rfl⟩
   obtain ⟨q0,q1,q2,q3⟩:=XM5.out.cells4;obtain ⟨x0,x1,x2,x3⟩:=XO5.out.cells4;obtain ⟨p0,p1,p2,p3⟩:=XR5.out.cells4;have fz:=XR5.out.frozen;have FIN:=aa (eh (f:=false) B5.out D5.out S5.out C5.out r2 r1 r3 (by omega) sW (by omega));clear B5 XM5 XN5 XR5 S5 C5 D5 XO5;go_wp2
   refine bodyPost_ret (v:=.tuple #[.agg #[.slice b0 n0 e0,.slice b1 n1 e1,.bool false,.slice b3 n3 e3],.bool false]) (by simp [results,Tryz.results59,go_sem,p0,p1,p2,p3]) rfl ?_
   exact ⟨_,_,_,by rw [HK.out.1],by rw [HK.out.2.1,HK.out.2.2];exact FIN.out.1,FIN.out.2⟩
 by_cases hL:n1<60
 rotate_left
 . have hL':(60:Int)<=(n1:Int):=by omega
   have hL2:¬cs.length<60:=by omega
   have HK:Hid (da ss cs false bs n sw=false/\dS ss cs false bs n sw=cs/\dT ss cs false bs n sw=bs):=by
    have hk:da ss cs false bs n sw=false:=by unfold da;simp [hL2]
    unfold dS dT;exact ⟨hk,by rw [hk];rfl,by rw [hk];rfl⟩
   obtain ⟨q0,q1,q2,q3⟩:=XM5.out.cells4;obtain ⟨x0,x1,x2,x3⟩:=XO5.out.cells4;obtain ⟨p0,p1,p2,p3⟩:=XR5.out.cells4;have fz:=XR5.out.frozen;have FIN:=aa (eh (f:=false) B5.out D5.out S5.out C5.out r2 r1 r3 (by omega) sW (by omega));clear B5 XM5 XN5 XR5 S5 C5 D5 XO5;go_wp2
   refine bodyPost_ret (v:=.tuple #[.agg #[.slice b0 n0 e0,.slice b1 n1 e1,.bool false,.slice b3 n3 e3],.bool false]) (by simp [results,Tryz.results59,go_sem,p0,p1,p2,p3]) rfl ?_
   exact ⟨_,_,_,by rw [HK.out.1],by rw [HK.out.2.1,HK.out.2.2];exact FIN.out.1,FIN.out.2⟩
 have hL':¬(60:Int)<=(n1:Int):=by omega
 have HK:Hid (da ss cs false bs n sw=true/\dS ss cs false bs n sw=cs++[(n,sw)]/\dT ss cs false bs n sw=cX bs n):=by
  have hk:da ss cs false bs n sw=true:=by unfold da;rw [hM,hl0,hI,hS,decide_eq_true (by omega)];rfl
  unfold dS dT;exact ⟨hk,by rw [hk];rfl,by rw [hk];rfl⟩
 clear hM hI hS;obtain ⟨q0,q1,q2,q3⟩:=XM5.out.cells4;obtain ⟨x0,x1,x2,x3⟩:=XO5.out.cells4;have qn:w5.cell? ⟨w.heap.size+1,0,none⟩=some (.int .i64 n):=XN5.out.cell 0;have hle:¬(60:Int)<=(n1:Int):=by omega
 have hlw3:n3<=2097152:=by unfold aM at hw;simp only at hw;omega
 go_wp2_with fail
 clear q0 q1 q2 q3;obtain ⟨i1,hi1,hy0,hy1,hy2⟩:=info_parts Tryz.infoWr;obtain ⟨fpC,mC,rC⟩:=C5.out.mine;have MC:=aa mC;have RC:=aa rC;clear mC rC;have HX5:=aa (h5.below B5.out);have L1:Hid (cs.length+1<=maxLen):=by unfold Hid maxLen;omega
 have L2:Hid ((cs.length+1)*32<=140737488355328):=by unfold Hid;omega
 have hS:w5.drew.cell? ⟨w1.heap.size,1,none⟩=some (.slice b1 n1 e1)/\w5.drew.cell? ⟨w.heap.size+1,0,none⟩=some (.int .i64 n):=⟨XO5.out.cell 1,XN5.out.cell 0⟩;clear x0 x1 x2 x3 qn hle;refine ao.start (S:=fun w'=>w'.cell? ⟨w1.heap.size,1,none⟩=some (.slice b1 n1 e1)/\w'.cell? ⟨w.heap.size+1,0,none⟩=some (.int .i64 n)) (k:=9) (by kernel_rfl) ?_
 refine ao.t 0 hS ?_
 refine ao.t 1 hS ?_
 refine ao.t 2 hS ?_
 refine ao.t 3 hS ?_
 refine ao.one (i:=4) (by kernel_rfl) rfl (fun K hK=>?_)
 go_simp
 refine (bP _ _ _ _ sw (by exact HX5.out.drew) (by omega)).mono ?_
 rintro e wc ⟨ac,cc,rfl,oc,hbd⟩;have hbc:Below w5.heap.size w5 wc:=(by exact (Below.refl w5.heap.size w5).drew.trans hbd);obtain ⟨fpx,mx,rx⟩:=Ty.Own.mine (lo:=w5.heap.size) oc;have MX:=aa mx;have RX:=aa rx;clear mx rx oc hbd;have xoc:Box wc w1.heap.size 55 _:=XO5.out.below hbc (by omega);have xnc:Box wc (w.heap.size+1) 3 _:=XN5.out.below hbc (by omega);have hS3:wc.cell? ⟨w1.heap.size,1,none⟩=some (.slice b1 n1 e1)/\wc.cell? ⟨w.heap.size+1,0,none⟩=some (.int .i64 n):=⟨xoc.cell 1,xnc.cell 0⟩;have hS4:(wc.alloc (.cells #[.int .i64 n,.slice ac n5 cc] 119)).cell? ⟨w1.heap.size,1,none⟩=some (.slice b1 n1 e1)/\(wc.alloc (.cells #[.int .i64 n,.slice ac n5 cc] 119)).cell? ⟨w.heap.size+1,0,none⟩=some (.int .i64 n):=⟨(xoc.alloc (.cells #[.int .i64 n,.slice ac n5 cc] 119)).cell 1,(xnc.alloc (.cells #[.int .i64 n,.slice ac n5 cc] 119)).cell 0⟩;have XOC:=aa xoc;have XNC:=aa xnc;have HBC:=aa hbc;clear xoc hbc xnc;go_wp2_with fail
 refine hK.out _ _ (fun _=>hS3) ?_
 clear hK K;refine ao.t 5 hS3 ?_
 refine ao.one (i:=6) (by kernel_rfl) rfl (fun K hK=>?_)
 go_simp
 refine hK.out _ _ (fun _=>hS4) ?_
 clear hK K;refine ao.one (i:=7) (by kernel_rfl) rfl (fun K hK=>?_)
 refine cS tWr (by rfl) _ _ 53 (by rfl) 119 i1 (.agg #[.int .i64 0,.slice none 0 0]) 32 Tryz.underlying53 hi1 hy0 hy1 hy2 rfl Nat.zero_lt_two (.slice b1 n1 e1) cs fpC (by rfl) ?_ ⟨wc.heap.size,0,none⟩ 1 [.int .i64 n,.slice ac n5 cc] (n,sw) fpx (by rfl) ?_ ?_ ?_ ?_ L1.out L2.out ?_
 . exact (MC.out.below HBC.out).alloc _
 . exact (eE n MX.out).alloc _
 . intro b hb hb'
   have h1:=RC.out b hb;have h2:=RX.out b hb';omega
 . exact bN _ _ _
 . intro u hu
   simp at hu
   rcases hu with hu|hu<;>(rw [hu];rfl)
 intro g cap wA fpA m1' m2' m3';rw [hl1] at m1' ⊢;have zB:(wc.alloc (.cells #[.int .i64 n,.slice ac n5 cc] 119)).heap.size=wc.heap.size+1:=by simp
 have ya:Box wA w1.heap.size 55 _:=(XOC.out.alloc _).turned m3' (fun hm=>by have:=RC.out _ hm;omega);have yn:Box wA (w.heap.size+1) 3 _:=(XNC.out.alloc _).turned m3' (fun hm=>by have:=RC.out _ hm;omega);have hS5:wA.cell? ⟨w1.heap.size,1,none⟩=some (.slice b1 n1 e1)/\wA.cell? ⟨w.heap.size+1,0,none⟩=some (.int .i64 n):=⟨ya.cell 1,yn.cell 0⟩;have c9:=hS5.1;have fz:=ya.frozen 1;have YA:=aa ya;have M1:=aa m1';have M2:=aa m2';have M3:=aa m3';have ZB:=aa zB;clear ya m1' m2' m3' zB yn;refine hK.out _ _ (fun _=>hS5) ?_
 clear hK K;simp only [Act.put,List.setIfInBounds_toArray,List.set_cons_zero,List.set_cons_succ]
 refine ao.t 8 hS5 ?_
 refine ao.one (i:=9) (by kernel_rfl) rfl (fun K hK=>?_)
 go_simp
 refine hK.out _ _ (fun h=>absurd rfl h) ?_
 clear hK K;refine ao.done (by kernel_rfl) ?_ _
 have zc:=HBC.out.size;have zA:=M3.out.size;have zB:=ZB.out;have hb6:But m2 (w1.heap.size+1) w5 (wA.setCell ⟨w1.heap.size,1,none⟩ (.slice (some ⟨g,0,none⟩) (n1+1) cap)):=((But.of_below (Below.andThen HBC.out ((Below.refl _ _).alloc (Nat.le_refl _) _))).trans (M3.out.but (fun b hb=>by have:=RC.out b hb;omega))).trans (But.setCell (by omega) (by omega) _);have rA:∀b∈fpA,m2<=b/\b≠w1.heap.size/\b<wA.heap.size:=fun b hb=>by
  have hlt:=M1.out.lt b hb;rcases M2.out b hb with h|h|h
  . have:=RC.out b h
    omega
  . have:=RX.out b h
    omega
  have:=h.1;omega
 have mZ:=M1.out.setCell (g:=w1.heap.size) (j:=1) (fun hm=>by have:=rA _ hm;omega) (.slice (some ⟨g,0,none⟩) (n1+1) cap);have yZ:=YA.out.set 1 (.slice (some ⟨g,0,none⟩) (n1+1) cap);have zs:wA.heap.size<=(wA.setCell ⟨w1.heap.size,1,none⟩ (.slice (some ⟨g,0,none⟩) (n1+1) cap)).heap.size:=by simp
 have MZ:=aa mZ;have RZ:Hid (∀b∈fpA,m2<=b/\b≠w1.heap.size/\b<(wA.setCell ⟨w1.heap.size,1,none⟩ (.slice (some ⟨g,0,none⟩) (n1+1) cap)).heap.size):=fun b hb=>by have:=rA b hb;omega
 have YZ:=aa yZ;clear mZ rA yZ zs zA zB zc hS hS3 hS4 hS5 c9 fz YA M1 M2 M3 ZB XOC MX RX HBC MC RC HX5 L1 L2 XNC;clear XO5;clear C5;have B6:=aa (Below.andBut B5.out hb6 (by omega));have XM6:=aa (XM5.out.kept (hb6.block _ (by omega) (by omega)));have XN6:=aa (XN5.out.kept (hb6.block _ (by omega) (by omega)));have XR6:=aa (XR5.out.kept (hb6.block _ (by omega) (by omega)));have S6:=aa (S5.out.but hb6 (by omega));have D6:=aa (D5.out.but hb6 (by omega));have z6:=hb6.size;clear B5 XM5 XN5 XR5 S5 D5 hb6;generalize (wA.setCell ⟨w1.heap.size,1,none⟩ (.slice (some ⟨g,0,none⟩) (n1+1) cap))=w6 at B6 XM6 XN6 XR6 S6 D6 z6 MZ RZ YZ ⊢;have XO6:Hid (Box w6 w1.heap.size 55 #[.slice b0 n0 e0,.slice (some ⟨g,0,none⟩) (n1+1) cap,.bool false,.slice b3 n3 e3]):=YZ.out;clear YZ;have hmf:∀(fn:Fn) (first cap:Array Value) (w:World),(Instr.makeFunc fn first cap).run Tryz.prog w=.ok (.func fn first cap) w:=fun _ _ _ _=>rfl;obtain ⟨x0,x1,x2,x3⟩:=XO6.out.cells4;have HCN:Hid (w6.cell? ⟨w.heap.size+1,0,none⟩=some (.int .i64 n)):=XN6.out.cell 0;go_wp2_with fail
 refine (nt _ W.heap.size m1 _ _ _ bs n (w.heap.size+1) D6.out HCN.out (by omega) (by omega)).mono ?_
 rintro e wb ⟨d3,f3,rfl,od,hbB⟩;have zb:=hbB.size;have xob:Box wb w1.heap.size 55 _:=XO6.out.kept (hbB.block _ (by omega) (by omega));clear x0 x1 x2 x3;obtain ⟨x0,x1,x2,x3⟩:=xob.cells4;have fz:=xob.frozen 3;have XOB:=aa xob;have OD:=aa od;have HBB:=aa hbB;clear xob od hbB;have bs9:=But.setCell (lo:=w1.heap.size) (hi:=w1.heap.size+1) (g:=w1.heap.size) (j:=3) (w:=wb) (Nat.le_refl _) (Nat.lt_succ_self _) (.slice d3 (cX bs n).length f3);have zt:=bs9.size;have MY:=aa ((MZ.out.but HBB.out (fun b hb=>by have:=RZ.out b hb;omega)).but bs9 (fun b hb=>by have:=RZ.out b hb;omega));have YZ:=aa (XOB.out.set 3 (.slice d3 (cX bs n).length f3));have D7:=aa (OD.out.but bs9 (.inl (by omega)));have S7:=aa ((S6.out.but HBB.out (.inr (Nat.le_refl _))).but bs9 (.inl (by omega)));have XR7:=aa ((XR6.out.kept (HBB.out.block _ (by omega) (by omega))).kept (bs9.block _ (by omega) (by omega)));have B7:=aa (Below.andBut (Below.andBut B6.out HBB.out (by omega)) bs9 (by omega));have RY:Hid (∀b∈fpA,m2<=b/\b<(wb.setCell ⟨w1.heap.size,3,none⟩ (.slice d3 (cX bs n).length f3)).heap.size):=fun b hb=>by have:=RZ.out b hb;omega
 have z7:w6.heap.size<=(wb.setCell ⟨w1.heap.size,3,none⟩ (.slice d3 (cX bs n).length f3)).heap.size:=by omega
 clear bs9 zt zb XOB OD HBB MZ RZ HCN hmf B6 XM6 XN6 XR6 S6 D6 XO6;obtain ⟨t0,t1,t2,t3⟩:=Box.cells4 (v0:=.slice b0 n0 e0) (v1:=.slice (some ⟨g,0,none⟩) (n1+1) cap) (v2:=.bool false) (v3:=.slice d3 (cX bs n).length f3) YZ.out;obtain ⟨p0,p1,p2,p3⟩:=XR7.out.cells4;have fr:=XR7.out.frozen;go_wp2
 generalize (wb.setCell ⟨w1.heap.size,3,none⟩ (.slice d3 (cX bs n).length f3))=w7 at B7 S7 D7 XR7 MY RY YZ z7 p0 p1 p2 p3 fr t0 t1 t2 t3 ⊢;have hbt:But (w.heap.size+2) (w.heap.size+2+1) w7 ((((w7.setCell ⟨w.heap.size+2,0,none⟩ (.slice b0 n0 e0)).setCell ⟨w.heap.size+2,1,none⟩ (.slice (some ⟨g,0,none⟩) (n1+1) cap)).setCell ⟨w.heap.size+2,2,none⟩ (.bool false)).setCell ⟨w.heap.size+2,3,none⟩ (.slice d3 (cX bs n).length f3)):=
  (((But.setCell (by omega) (by omega) _).trans (But.setCell (by omega) (by omega) _)).trans (But.setCell (by omega) (by omega) _)).trans (But.setCell (by omega) (by omega) _)
 have z99:=hbt.size;refine bodyPost_ret (v:=.tuple #[.agg #[.slice b0 n0 e0,.slice (some ⟨g,0,none⟩) (n1+1) cap,.bool false,.slice d3 (cX bs n).length f3],.bool true]) (by simp [results,Tryz.results59,go_sem,p0,p1,p2,p3]) rfl ?_
 have FIN:Hid ((cu 119).Own ((((w7.setCell ⟨w.heap.size+2,0,none⟩ (.slice b0 n0 e0)).setCell ⟨w.heap.size+2,1,none⟩ (.slice (some ⟨g,0,none⟩) (n1+1) cap)).setCell ⟨w.heap.size+2,2,none⟩ (.bool false)).setCell ⟨w.heap.size+2,3,none⟩ (.slice d3 (cX bs n).length f3)) w.heap.size ((((w7.setCell ⟨w.heap.size+2,0,none⟩ (.slice b0 n0 e0)).setCell ⟨w.heap.size+2,1,none⟩ (.slice (some ⟨g,0,none⟩) (n1+1) cap)).setCell ⟨w.heap.size+2,2,none⟩ (.bool false)).setCell ⟨w.heap.size+2,3,none⟩ (.slice d3 (cX bs n).length f3)).heap.size [.slice b0 n0 e0,.slice (some ⟨g,0,none⟩) (n1+1) cap,.bool false,.slice d3 (cX bs n).length f3] (ss,cs++[(n,sw)],false,cX bs n)):=cH (S7.out.but hbt (by omega)) ((MY.out.own (lo:=m2) (hi:=w7.heap.size) (fun b hb=>RY.out b hb)).but hbt (by omega)) (D7.out.but hbt (by omega)) (by omega) (by omega) (by omega) (by omega) (by omega) (by omega);have FB:=aa (Below.andBut B7.out hbt (by omega));exact ⟨_,_,_,by rw [HK.out.1],by rw [HK.out.2.1,HK.out.2.2];exact FIN.out,FB.out⟩
def jc (x:aq) (ms:List ai) (ds:List (Int×List Int)):Int:=if bf x ms ds=true then (if x.down=true then 6 else 0) else 1
def jd (x:aq) (ms:List ai) (ds:List (Int×List Int)) (s:Int):Int:=if jc x ms ds=0 then (if bJ x.n x.s s=true then 0 else 2) else jc x ms ds
theorem nK {x:aq} {ms:List ai} {ds:List (Int×List Int)} (h:jc x ms ds=0):bf x ms ds=true/\x.down=false:=by
 unfold jc at h;by_cases ha:bf x ms ds=true
 . rw [if_pos ha] at h
   by_cases hd:x.down=true
   . rw [if_pos hd] at h
     omega
   exact ⟨ha,by simpa using hd⟩
 rw [if_neg ha] at h;omega
theorem kj {x:aq} {ms:List ai} {ds:List (Int×List Int)} (ha:bf x ms ds=true):bL x.n x.s=true:=by
 unfold bf at ha;simp only [Bool.and_eq_true] at ha
 exact ha.1
theorem qE {x:aq} {ms:List ai} {ds:List (Int×List Int)} (ha:bf x ms ds=true):rM ds:=by
 have hg:=kj ha;obtain ⟨_,_,_,g4⟩:=aB.1 hg;unfold bf ey at ha;simp only [Bool.and_eq_true] at ha
 have he:=dR.1 ha.2.2.2.1;have h1:∀(i:Nat) (e e':Int×List Int),ds[i]?=some e->ds[i+1]?=some e'->e.1<e'.1:=fun i e e' h h'=>by
  have:=he (i+1) e' h';unfold dI at this;simp only [Bool.and_eq_true,Bool.or_eq_true,decide_eq_true_eq,Nat.add_sub_cancel] at this
  rcases this.2.2.2 with h0|h0
  . omega
  rw [List.getD_eq_getElem?_getD,h] at h0;exact h0
 refine ⟨fun i j=>?_,fun i e h=>?_⟩
 . induction j with
   | zero=>intro e e' h;omega
   | succ j ih=>
    intro e e' hij h h';by_cases hj:i=j
    . subst hj
      exact h1 i e e' h h'
    have hjl:=(List.getElem?_eq_some_iff.1 h').1;have hjj:=List.getElem?_eq_getElem (show j<ds.length by omega);have a1:=ih e _ (by omega) h hjj;have a2:=h1 j _ e' hjj h';omega
 have:=he i e h;unfold dI at this;simp only [Bool.and_eq_true] at this
 have:=aG.1 this.1;omega
theorem xz {ds:List aH} (h:rM ds):ds.length<=101:=by
 have h1:∀(i:Nat) (e:aH),ds[i]?=some e->(i:Int)<=e.1:=by
  intro i;induction i with
  | zero=>intro e he;have:=h.2 0 e he;omega
  | succ i ih=>
   intro e he;have hl:=(List.getElem?_eq_some_iff.1 he).1;have hi:=List.getElem?_eq_getElem (show i<ds.length by omega);have a1:=ih _ hi;have a2:=h.1 i (i+1) _ e (by omega) hi he;omega
 by_cases h0:ds.length=0
 . omega
 have hi:=List.getElem?_eq_getElem (show ds.length-1<ds.length by omega);have a1:=h1 _ _ hi;have a2:=h.2 _ _ hi;omega
theorem rN (w:World) (x:aq) (am ad:Option Addr) (nm cm nd cd:Nat) (m:Int):
 Calls Tryz.prog 37 #[.agg #[.int .i64 x.id,.int .i64 x.n,.int .i64 x.s,.slice am nm cm,.int .i64 x.lost,.int .i64 x.xW,.int .i64 x.seq,.int .i64 x.tail,.int .i64 x.gen,.slice ad nd cd,.int .i64 x.xY,.bool x.down,.bool x.xX],.int .i64 m] w fun e w'=>e=.returned (.bool (inB m 0 ((nm:Int)-1)))/\Below w.heap.size w w':=by
 have hA:=af w (.cells #[.int .i64 x.id,.int .i64 x.n,.int .i64 x.s,.slice am nm cm,.int .i64 x.lost,.int .i64 x.xW,.int .i64 x.seq,.int .i64 x.tail,.int .i64 x.gen,.slice ad nd cd,.int .i64 x.xY,.bool x.down,.bool x.xX] 31);have X:=Box.new w 31 #[.int .i64 x.id,.int .i64 x.n,.int .i64 x.s,.slice am nm cm,.int .i64 x.lost,.int .i64 x.xW,.int .i64 x.seq,.int .i64 x.tail,.int .i64 x.gen,.slice ad nd cd,.int .i64 x.xY,.bool x.down,.bool x.xX];have k3:=X.cells13.2.2.2.1;have HI:Hid (inB m 0 ((nm:Int)-1)=(decide (0<=m)&&decide (m<(nm:Int)))):=by
  unfold Hid inB;congr 1
  rw [decide_eq_decide];omega
 by_cases h:0<=m
 . by_cases h2:m<(nm:Int)
   . go_enter Tryz.func37,Tryz.ntmps37
     go_wp2
     go_ret
     exact ⟨ah (by rw [HI.out];simp [h,h2]),hA⟩
   go_enter Tryz.func37,Tryz.ntmps37
   go_wp2
   go_ret
   exact ⟨ah (by rw [HI.out];simp [h2]),hA⟩
 go_enter Tryz.func37,Tryz.ntmps37
 go_wp2
 go_ret
 exact ⟨ah (by rw [HI.out,show decide (0<=m)=false from (by simpa using h)];rfl),hA⟩
def vR (w:World) (E:TypeId) (x:aq) (ms:List ai) (j:Nat) (v:Value):Prop:=
 ∃(a0 a1 a3:Option Addr) (c0 c1 c3:Nat) (ss:List (List Int)) (cs:List (Int×List Int)) (f:Bool) (bs:List Int),ms[j]?=some (ss,cs,f,bs)/\aU.Rd w [.slice a0 ss.length c0] ss/\(aW E).Rd w [.slice a1 cs.length c1] cs/\aD.Rd w [.slice a3 bs.length c3] bs /\
  ((f=true/\v=.iface 104 (.agg #[]))∨(f=false/\(j:Int)=x.lost/\v=.iface 102 (.agg #[.slice a0 ss.length c0,.slice a1 cs.length c1,.bool false,.slice a3 bs.length c3,.int .i64 x.xW]))∨(f=false/\¬(j:Int)=x.lost/\v=.iface 100 (.agg #[.slice a0 ss.length c0,.slice a1 cs.length c1,.bool false,.slice a3 bs.length c3])))
theorem jR (w:World) (E F:TypeId) (x:aq) (am ad:Option Addr) (nm cm nd cd:Nat) (ms:List ai) (j:Nat) (h0:(bI E F).Rd w [.slice am nm cm] ms) (hw:aQ ms<=2097152) (hj:j<nm):
 Calls Tryz.prog 39 #[.agg #[.int .i64 x.id,.int .i64 x.n,.int .i64 x.s,.slice am nm cm,.int .i64 x.lost,.int .i64 x.xW,.int .i64 x.seq,.int .i64 x.tail,.int .i64 x.gen,.slice ad nd cd,.int .i64 x.xY,.bool x.down,.bool x.xX],.int .i64 (j:Int)] w fun e w'=>∃v,e=.returned v/\vR w' E x ms j v/\Below w.heap.size w w':=by
 obtain ⟨hl,hc,hm⟩:=ag h0;have hnm:nm<=2097152:=by unfold aQ at hw;omega
 have hA:=af w (.cells #[.int .i64 x.id,.int .i64 x.n,.int .i64 x.s,.slice am nm cm,.int .i64 x.lost,.int .i64 x.xW,.int .i64 x.seq,.int .i64 x.tail,.int .i64 x.gen,.slice ad nd cd,.int .i64 x.xY,.bool x.down,.bool x.xX] 31);have X:=Box.new w 31 #[.int .i64 x.id,.int .i64 x.n,.int .i64 x.s,.slice am nm cm,.int .i64 x.lost,.int .i64 x.xW,.int .i64 x.seq,.int .i64 x.tail,.int .i64 x.gen,.slice ad nd cd,.int .i64 x.xY,.bool x.down,.bool x.xX];obtain ⟨k0,k1,k2,k3,k4,k5,k6,k7,k8,k9,k10,k11,k12⟩:=X.cells13;have h1:=h0.below hA;have i1:(0:Int)<=(j:Int):=by omega
 have i2:(j:Int)<(nm:Int):=by omega
 rcases eb rfl h1 with h0'|⟨b,off,rfl,hbl,hcs⟩
 . omega
 have hdj:ms[j]?=some (ms[j]'(by omega)):=List.getElem?_eq_getElem (by omega);generalize ms[j]'(by omega)=d at hdj;obtain ⟨v0,v1,v2,v3,hv0,hv1,hv2,hv3,hrv⟩:=hcs j d hdj;obtain ⟨a0,c0,a1,c1,a3,c3,ss,cs,f,bs,rfl,rfl,rfl,rfl,rfl,r0,r1,r3⟩:=fV hrv;clear hcs hrv h1 h0;have HR:=aa (And.intro hdj (And.intro r0 (And.intro r1 r3)));clear hdj r0 r1 r3;cases f
 . by_cases hjl:(j:Int)=x.lost
   . have e1:((j:Int)==x.lost)=true:=by simpa using hjl
     have HJ:=aa hjl;clear hjl;go_enter Tryz.func39,Tryz.ntmps39
     go_wp2
     go_quiet (fail)
     go_wp2
     refine bodyPost_ret (v:=.iface 102 (.agg #[.slice a0 ss.length c0,.slice a1 cs.length c1,.bool false,.slice a3 bs.length c3,.int .i64 x.xW])) (by simp [results,Tryz.results39,go_sem]) rfl ?_
     exact ⟨_,rfl,⟨_,_,_,_,_,_,ss,cs,false,bs,HR.out.1,HR.out.2.1.below (below_drewN (Below.refl _ _) _),HR.out.2.2.1.below (below_drewN (Below.refl _ _) _),HR.out.2.2.2.below (below_drewN (Below.refl _ _) _),.inr (.inl ⟨rfl,HJ.out,rfl⟩)⟩,below_drewN hA _⟩
   have e1:((j:Int)==x.lost)=false:=by simpa using hjl
   have HJ:=aa hjl;clear hjl;go_enter Tryz.func39,Tryz.ntmps39
   go_wp2
   refine bodyPost_ret (v:=.iface 100 (.agg #[.slice a0 ss.length c0,.slice a1 cs.length c1,.bool false,.slice a3 bs.length c3])) (by simp [results,Tryz.results39,go_sem]) rfl ?_
   exact ⟨_,rfl,⟨_,_,_,_,_,_,ss,cs,false,bs,HR.out.1,HR.out.2.1,HR.out.2.2.1,HR.out.2.2.2,.inr (.inr ⟨rfl,HJ.out,rfl⟩)⟩,hA⟩
 go_enter Tryz.func39,Tryz.ntmps39
 go_wp2
 refine bodyPost_ret (v:=.iface 104 (.agg #[])) (by simp [results,Tryz.results39,go_sem]) rfl ?_
 exact ⟨_,rfl,⟨_,_,_,_,_,_,ss,cs,true,bs,HR.out.1,HR.out.2.1,HR.out.2.2.1,HR.out.2.2.2,.inl ⟨rfl,rfl⟩⟩,hA⟩
theorem vS (w:World) (v0 v1 v2 v3:Value):Sem.run Tryz.prog (Instr.typeAssert (.iface 100 (.agg #[v0,v1,v2,v3])) 63 100 true) w=.ok (.tuple #[.agg #[v0,v1,v2,v3],.bool true]) w:=by kernel_rfl
theorem te (w:World) (v:Value):Sem.run Tryz.prog (Instr.typeAssert (.iface 102 v) 63 100 true) w=.ok (.tuple #[.agg #[.slice none 0 0,.slice none 0 0,.bool false,.slice none 0 0],.bool false]) w:=by kernel_rfl
theorem qG (w:World) (v:Value):Sem.run Tryz.prog (Instr.typeAssert (.iface 104 v) 63 100 true) w=.ok (.tuple #[.agg #[.slice none 0 0,.slice none 0 0,.bool false,.slice none 0 0],.bool false]) w:=by kernel_rfl
theorem xF (w:World) (v0 v1 v2 v3 v4:Value):Sem.run Tryz.prog (Instr.typeAssert (.iface 102 (.agg #[v0,v1,v2,v3,v4])) 63 102 true) w=.ok (.tuple #[.agg #[v0,v1,v2,v3,v4],.bool true]) w:=by kernel_rfl
theorem rO (w:World) (v:Value):Sem.run Tryz.prog (Instr.typeAssert (.iface 104 v) 63 102 true) w=.ok (.tuple #[.agg #[.slice none 0 0,.slice none 0 0,.bool false,.slice none 0 0,.int .i64 0],.bool false]) w:=by kernel_rfl
theorem mB (w:World) (a0 a1 a3:Option Addr) (n0 c0 n1 c1 n3 c3:Nat) (f:Bool) (s:Int):Calls Tryz.prog 38 #[.iface 100 (.agg #[.slice a0 n0 c0,.slice a1 n1 c1,.bool f,.slice a3 n3 c3]),.int .i64 s] w fun e w'=>e=.returned (.bool true)/\Below w.heap.size w w':=by
 have hA:=af w (.cells #[.slice a0 n0 c0,.slice a1 n1 c1,.bool f,.slice a3 n3 c3] 100);have s1:=vS w (.slice a0 n0 c0) (.slice a1 n1 c1) (.bool f) (.slice a3 n3 c3);go_enter Tryz.func38,Tryz.ntmps38
 go_wp2
 go_ret
 exact ⟨rfl,hA⟩
theorem nS (w:World) (a0 a1 a3:Option Addr) (n0 c0 n1 c1 n3 c3:Nat) (f:Bool) (b s:Int):Calls Tryz.prog 38 #[.iface 102 (.agg #[.slice a0 n0 c0,.slice a1 n1 c1,.bool f,.slice a3 n3 c3,.int .i64 b]),.int .i64 s] w fun e w'=>e=.returned (.bool (decide (s<b)))/\Below w.heap.size w w':=by
 have hA:=af w (.cells #[.slice a0 n0 c0,.slice a1 n1 c1,.bool f,.slice a3 n3 c3,.int .i64 b] 102);have s1:=te w (.agg #[.slice a0 n0 c0,.slice a1 n1 c1,.bool f,.slice a3 n3 c3,.int .i64 b]);have s2:=xF w (.slice a0 n0 c0) (.slice a1 n1 c1) (.bool f) (.slice a3 n3 c3) (.int .i64 b);go_enter Tryz.func38,Tryz.ntmps38
 go_wp2
 go_ret
 exact ⟨rfl,hA⟩
theorem qH (w:World) (s:Int):Calls Tryz.prog 38 #[.iface 104 (.agg #[]),.int .i64 s] w fun e w'=>e=.returned (.bool false)/\w'=w:=by
 have s1:=qG w (.agg #[]);have s2:=rO w (.agg #[]);go_enter Tryz.func38,Tryz.ntmps38
 go_wp2
 go_ret
 exact ⟨rfl,rfl⟩
end Go.Proofs.YtgjomldcnjjpaaaGreat
