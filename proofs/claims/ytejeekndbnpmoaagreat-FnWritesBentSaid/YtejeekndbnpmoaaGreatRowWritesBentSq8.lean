/-
 The walk of the specification's WriteSec: one write more in the cache, the sector no longer Bad, in memory of its own; else the disk as it was, and false. Condition: the disk and the sector weigh at most 2097152 each.
-/
import Derived.Test.YtejeekndbnpmoaaGreatRowWritesBentSq3
import Derived.Test.YtejeekndbnpmoaaGreatRowWritesBentSq7

set_option maxRecDepth 100000
set_option maxHeartbeats 8000000
set_option linter.unusedSimpArgs false

namespace Go.Proofs.YtejeekndbnpmoaaGreat
open Go.RowKit

def cV (ss:List (List Int)) (cs:List (Int×List Int)) (f:Bool) (bs:List Int) (n:Int) (sw:List Int):Bool:=bp ss cs bs&&(!f&&(inB n 0 ((ss.length:Int)-1)&&(da sw&&decide (cs.length<60))))
def dP (ss:List (List Int)) (cs:List (Int×List Int)) (f:Bool) (bs:List Int) (n:Int) (sw:List Int):List (Int×List Int):=if cV ss cs f bs n sw=true then cs++[(n,sw)] else cs
def dQ (ss:List (List Int)) (cs:List (Int×List Int)) (f:Bool) (bs:List Int) (n:Int) (sw:List Int):List Int:=if cV ss cs f bs n sw=true then cO bs n else bs
theorem dR (w:World) (E:TypeId) (a0 a1 a3 a5:Option Addr) (n0 c0 n1 c1 n3 c3 n5 c5:Nat) (ss:List (List Int)) (cs:List (Int×List Int)) (f:Bool) (bs:List Int) (n:Int) (sw:List Int) (h0:aT.Rd w [.slice a0 n0 c0] ss) (h1:(aU E).Rd w [.slice a1 n1 c1] cs) (h3:aA.Rd w [.slice a3 n3 c3] bs) (h5:aA.Rd w [.slice a5 n5 c5] sw) (hw:aQ (ss,cs,f,bs)<=2097152) (hw5:n5<=2097152):
 Calls Tryz.prog 256 #[.agg #[.slice a0 n0 c0,.slice a1 n1 c1,.bool f,.slice a3 n3 c3],.int .i64 n,.slice a5 n5 c5] w fun e w'=>∃v0 v1 v3,e=.returned (.tuple #[.agg #[v0,v1,.bool f,v3],.bool (cV ss cs f bs n sw)])/\(bR 171).Own w' w.heap.size w'.heap.size [v0,v1,.bool f,v3] (ss,dP ss cs f bs n sw,f,dQ ss cs f bs n sw)/\Below w.heap.size w w':=by
 obtain ⟨hl0,_,hm0⟩:=af h0;obtain ⟨hl1,_,hm1⟩:=af h1;obtain ⟨hl3,_,hm3⟩:=af h3;obtain ⟨hl5,_,hm5⟩:=af h5;have hA:Below w.heap.size w (((w.alloc (.cells #[.slice a0 n0 c0,.slice a1 n1 c1,.bool f,.slice a3 n3 c3] 101)).alloc (.cells #[.int .i64 n] 3)).alloc (.cells #[.slice none 0 0,.slice none 0 0,.bool false,.slice none 0 0] 101)):=(((Below.refl _ _).alloc (Nat.le_refl _) _).alloc (by simp) _).alloc (by simp;omega) _;have xm:Box (((w.alloc (.cells #[.slice a0 n0 c0,.slice a1 n1 c1,.bool f,.slice a3 n3 c3] 101)).alloc (.cells #[.int .i64 n] 3)).alloc (.cells #[.slice none 0 0,.slice none 0 0,.bool false,.slice none 0 0] 101)) w.heap.size 101 #[.slice a0 n0 c0,.slice a1 n1 c1,.bool f,.slice a3 n3 c3]:=((Box.new w _ _).alloc _).alloc _;have xn:Box (((w.alloc (.cells #[.slice a0 n0 c0,.slice a1 n1 c1,.bool f,.slice a3 n3 c3] 101)).alloc (.cells #[.int .i64 n] 3)).alloc (.cells #[.slice none 0 0,.slice none 0 0,.bool false,.slice none 0 0] 101)) (w.heap.size+1) 3 #[.int .i64 n]:=by
  have:=Box.new (w.alloc (.cells #[.slice a0 n0 c0,.slice a1 n1 c1,.bool f,.slice a3 n3 c3] 101)) 3 #[.int .i64 n];rw [show (w.alloc (.cells #[.slice a0 n0 c0,.slice a1 n1 c1,.bool f,.slice a3 n3 c3] 101)).heap.size=w.heap.size+1 by simp] at this;exact this.alloc _
 have xr:Box (((w.alloc (.cells #[.slice a0 n0 c0,.slice a1 n1 c1,.bool f,.slice a3 n3 c3] 101)).alloc (.cells #[.int .i64 n] 3)).alloc (.cells #[.slice none 0 0,.slice none 0 0,.bool false,.slice none 0 0] 101)) (w.heap.size+2) 101 #[.slice none 0 0,.slice none 0 0,.bool false,.slice none 0 0]:=by
  have:=Box.new ((w.alloc (.cells #[.slice a0 n0 c0,.slice a1 n1 c1,.bool f,.slice a3 n3 c3] 101)).alloc (.cells #[.int .i64 n] 3)) 101 #[.slice none 0 0,.slice none 0 0,.bool false,.slice none 0 0];rw [show ((w.alloc (.cells #[.slice a0 n0 c0,.slice a1 n1 c1,.bool f,.slice a3 n3 c3] 101)).alloc (.cells #[.int .i64 n] 3)).heap.size=w.heap.size+2 by simp] at this;exact this
 go_enter Tryz.func256,Tryz.ntmps256
 go_wp2_with fail
 generalize hW:((w.alloc (.cells #[.slice a0 n0 c0,.slice a1 n1 c1,.bool f,.slice a3 n3 c3] 101)).alloc (.cells #[.int .i64 n] 3)).alloc (.cells #[.slice none 0 0,.slice none 0 0,.bool false,.slice none 0 0] 101)=W at hA xm xn xr ⊢;clear hW;have zr:=xr.lt;have B0:=aa hA;clear hA;have XM0:=aa xm;clear xm;have XN0:=aa xn;clear xn;have XR0:=aa xr;clear xr;refine (ev _ E _ _ _ _ _ _ _ _ _ ss cs f bs (h0.below B0.out) (h1.below B0.out) (h3.below B0.out) hw).mono ?_
 intro e w1 hc;obtain ⟨b0,b1,b3,e0,e1,e3,m1,m2,rfl,o3,o0,o1,r1,r2,r3,hb1⟩:=cQ hl0 hl1 hl3 hc;clear hc;have B1:=aa (Below.andThen B0.out hb1);have XM1:=aa (XM0.out.below hb1 (by omega));have XN1:=aa (XN0.out.below hb1 (by omega));have XR1:=aa (XR0.out.below hb1 (by omega));have z1:=hb1.size;clear B0 XM0 XN0 XR0 hb1;have S1:=aa o0;clear o0;have C1:=aa o1;clear o1;have D1:=aa o3;clear o3;have ba:Below w1.heap.size w1 (w1.alloc (.cells #[.slice b0 n0 e0,.slice b1 n1 e1,.bool f,.slice b3 n3 e3] 101)):=(Below.refl _ _).alloc (Nat.le_refl _) _;have yo:=Box.new w1 101 #[.slice b0 n0 e0,.slice b1 n1 e1,.bool f,.slice b3 n3 e3];have zo:=yo.lt;have B2:=aa (Below.andThen B1.out ba);have XM2:=aa (XM1.out.below ba (by omega));have XN2:=aa (XN1.out.below ba (by omega));have XR2:=aa (XR1.out.below ba (by omega));have S2:=aa (S1.out.below ba);have C2:=aa (C1.out.below ba);have D2:=aa (D1.out.below ba);have z2:=ba.size;clear B1 XM1 XN1 XR1 S1 C1 D1 ba;have XO2:=aa yo;clear yo;have sW:w.heap.size+2<W.heap.size:=zr;obtain ⟨q0,q1,q2,q3⟩:=XM2.out.cells4;go_wp2_with fail
 generalize w1.alloc (.cells #[.slice b0 n0 e0,.slice b1 n1 e1,.bool f,.slice b3 n3 e3] 101)=w2 at B2 XM2 XN2 XR2 S2 C2 D2 XO2 z2 zo q0 q1 q2 q3 ⊢;refine (ce _ E _ _ _ _ _ _ _ _ _ ss cs f bs (h0.below B2.out) (h1.below B2.out) (h3.below B2.out) hw).mono ?_
 rintro e w3 ⟨rfl,hb3⟩;clear q0 q1 q2 q3;have B3:=aa (Below.andThen B2.out hb3);have XM3:=aa (XM2.out.below hb3 (by omega));have XN3:=aa (XN2.out.below hb3 (by omega));have XR3:=aa (XR2.out.below hb3 (by omega));have S3:=aa (S2.out.below hb3);have C3:=aa (C2.out.below hb3);have D3:=aa (D2.out.below hb3);have XO3:=aa (XO2.out.below hb3 (by omega));have z3:=hb3.size;clear B2 XM2 XN2 XR2 S2 C2 D2 XO2 hb3;cases hM:bp ss cs bs
 . have HK:Hid (cV ss cs f bs n sw=false/\dP ss cs f bs n sw=cs/\dQ ss cs f bs n sw=bs):=by
    have hk:cV ss cs f bs n sw=false:=by unfold cV;simp [hM]
    unfold dP dQ;exact ⟨hk,by rw [hk];rfl,by rw [hk];rfl⟩
   obtain ⟨q0,q1,q2,q3⟩:=XM3.out.cells4;obtain ⟨x0,x1,x2,x3⟩:=XO3.out.cells4;obtain ⟨p0,p1,p2,p3⟩:=XR3.out.cells4;have fz:=XR3.out.frozen;have FIN:=aa (dO (f:=f) B3.out D3.out S3.out C3.out r2 r1 r3 (by omega) sW (by omega));clear B3 XM3 XN3 XR3 S3 C3 D3 XO3;go_wp2
   refine bodyPost_ret (v:=.tuple #[.agg #[.slice b0 n0 e0,.slice b1 n1 e1,.bool f,.slice b3 n3 e3],.bool false]) (by simp [results,Tryz.results256,go_sem,p0,p1,p2,p3]) rfl ?_
   exact ⟨_,_,_,by rw [HK.out.1],by rw [HK.out.2.1,HK.out.2.2];exact FIN.out.1,FIN.out.2⟩
 cases f;rotate_left
 . skip
   have HK:Hid (cV ss cs true bs n sw=false/\dP ss cs true bs n sw=cs/\dQ ss cs true bs n sw=bs):=by
    have hk:cV ss cs true bs n sw=false:=by unfold cV;simp [hM]
    unfold dP dQ;exact ⟨hk,by rw [hk];rfl,by rw [hk];rfl⟩
   obtain ⟨q0,q1,q2,q3⟩:=XM3.out.cells4;obtain ⟨x0,x1,x2,x3⟩:=XO3.out.cells4;obtain ⟨p0,p1,p2,p3⟩:=XR3.out.cells4;have fz:=XR3.out.frozen;have FIN:=aa (dO (f:=true) B3.out D3.out S3.out C3.out r2 r1 r3 (by omega) sW (by omega));clear B3 XM3 XN3 XR3 S3 C3 D3 XO3;go_wp2
   refine bodyPost_ret (v:=.tuple #[.agg #[.slice b0 n0 e0,.slice b1 n1 e1,.bool true,.slice b3 n3 e3],.bool false]) (by simp [results,Tryz.results256,go_sem,p0,p1,p2,p3]) rfl ?_
   exact ⟨_,_,_,by rw [HK.out.1],by rw [HK.out.2.1,HK.out.2.2];exact FIN.out.1,FIN.out.2⟩
 obtain ⟨q0,q1,q2,q3⟩:=XM3.out.cells4;have qn:w3.cell? ⟨w.heap.size+1,0,none⟩=some (.int .i64 n):=XN3.out.cell 0;go_wp2_with fail
 refine (dG _ _ _ _ _ _ _ _).mono ?_
 rintro e w4 ⟨rfl,hb4⟩;clear q0 q1 q2 q3;clear qn;have B4:=aa (Below.andThen B3.out hb4);have XM4:=aa (XM3.out.below hb4 (by omega));have XN4:=aa (XN3.out.below hb4 (by omega));have XR4:=aa (XR3.out.below hb4 (by omega));have S4:=aa (S3.out.below hb4);have C4:=aa (C3.out.below hb4);have D4:=aa (D3.out.below hb4);have XO4:=aa (XO3.out.below hb4 (by omega));have z4:=hb4.size;clear B3 XM3 XN3 XR3 S3 C3 D3 XO3 hb4;cases hI:inB n 0 ((n0:Int)-1)
 . have hI2:inB n 0 ((ss.length:Int)-1)=false:=by rw [hl0];exact hI
   have HK:Hid (cV ss cs false bs n sw=false/\dP ss cs false bs n sw=cs/\dQ ss cs false bs n sw=bs):=by
    have hk:cV ss cs false bs n sw=false:=by unfold cV;simp [hI2]
    unfold dP dQ;exact ⟨hk,by rw [hk];rfl,by rw [hk];rfl⟩
   obtain ⟨q0,q1,q2,q3⟩:=XM4.out.cells4;obtain ⟨x0,x1,x2,x3⟩:=XO4.out.cells4;obtain ⟨p0,p1,p2,p3⟩:=XR4.out.cells4;have fz:=XR4.out.frozen;have FIN:=aa (dO (f:=false) B4.out D4.out S4.out C4.out r2 r1 r3 (by omega) sW (by omega));clear B4 XM4 XN4 XR4 S4 C4 D4 XO4;go_wp2
   refine bodyPost_ret (v:=.tuple #[.agg #[.slice b0 n0 e0,.slice b1 n1 e1,.bool false,.slice b3 n3 e3],.bool false]) (by simp [results,Tryz.results256,go_sem,p0,p1,p2,p3]) rfl ?_
   exact ⟨_,_,_,by rw [HK.out.1],by rw [HK.out.2.1,HK.out.2.2];exact FIN.out.1,FIN.out.2⟩
 obtain ⟨q0,q1,q2,q3⟩:=XM4.out.cells4;go_wp2_with fail
 refine (bO _ _ _ _ sw hl5 (aP (h5.below B4.out)).1 hw5).mono ?_
 rintro e w5 ⟨rfl,hs5⟩;clear q0 q1 q2 q3;have B5:=aa (Below.andSame B4.out hs5);have XM5:=aa (XM4.out.same hs5);have XN5:=aa (XN4.out.same hs5);have XR5:=aa (XR4.out.same hs5);have S5:=aa (S4.out.same hs5);have C5:=aa (C4.out.same hs5);have D5:=aa (D4.out.same hs5);have XO5:=aa (XO4.out.same hs5);have z5:=Nat.le_of_eq hs5.size.symm;clear B4 XM4 XN4 XR4 S4 C4 D4 XO4 hs5;cases hS:da sw
 . have HK:Hid (cV ss cs false bs n sw=false/\dP ss cs false bs n sw=cs/\dQ ss cs false bs n sw=bs):=by
    have hk:cV ss cs false bs n sw=false:=by unfold cV;simp [hS]
    unfold dP dQ;exact ⟨hk,by rw [hk];rfl,by rw [hk];rfl⟩
   obtain ⟨q0,q1,q2,q3⟩:=XM5.out.cells4;obtain ⟨x0,x1,x2,x3⟩:=XO5.out.cells4;obtain ⟨p0,p1,p2,p3⟩:=XR5.out.cells4;have fz:=XR5.out.frozen;have FIN:=aa (dO (f:=false) B5.out D5.out S5.out C5.out r2 r1 r3 (by omega) sW (by omega));clear B5 XM5 XN5 XR5 S5 C5 D5 XO5;go_wp2
   refine bodyPost_ret (v:=.tuple #[.agg #[.slice b0 n0 e0,.slice b1 n1 e1,.bool false,.slice b3 n3 e3],.bool false]) (by simp [results,Tryz.results256,go_sem,p0,p1,p2,p3]) rfl ?_
   exact ⟨_,_,_,by rw [HK.out.1],by rw [HK.out.2.1,HK.out.2.2];exact FIN.out.1,FIN.out.2⟩
 by_cases hL:n1<60
 rotate_left
 . have hL':(60:Int)<=(n1:Int):=by omega
   have hL2:¬cs.length<60:=by omega
   have HK:Hid (cV ss cs false bs n sw=false/\dP ss cs false bs n sw=cs/\dQ ss cs false bs n sw=bs):=by
    have hk:cV ss cs false bs n sw=false:=by unfold cV;simp [hL2]
    unfold dP dQ;exact ⟨hk,by rw [hk];rfl,by rw [hk];rfl⟩
   obtain ⟨q0,q1,q2,q3⟩:=XM5.out.cells4;obtain ⟨x0,x1,x2,x3⟩:=XO5.out.cells4;obtain ⟨p0,p1,p2,p3⟩:=XR5.out.cells4;have fz:=XR5.out.frozen;have FIN:=aa (dO (f:=false) B5.out D5.out S5.out C5.out r2 r1 r3 (by omega) sW (by omega));clear B5 XM5 XN5 XR5 S5 C5 D5 XO5;go_wp2
   refine bodyPost_ret (v:=.tuple #[.agg #[.slice b0 n0 e0,.slice b1 n1 e1,.bool false,.slice b3 n3 e3],.bool false]) (by simp [results,Tryz.results256,go_sem,p0,p1,p2,p3]) rfl ?_
   exact ⟨_,_,_,by rw [HK.out.1],by rw [HK.out.2.1,HK.out.2.2];exact FIN.out.1,FIN.out.2⟩
 have hL':¬(60:Int)<=(n1:Int):=by omega
 have HK:Hid (cV ss cs false bs n sw=true/\dP ss cs false bs n sw=cs++[(n,sw)]/\dQ ss cs false bs n sw=cO bs n):=by
  have hk:cV ss cs false bs n sw=true:=by unfold cV;rw [hM,hl0,hI,hS,decide_eq_true (by omega)];rfl
  unfold dP dQ;exact ⟨hk,by rw [hk];rfl,by rw [hk];rfl⟩
 clear hM hI hS;obtain ⟨q0,q1,q2,q3⟩:=XM5.out.cells4;obtain ⟨x0,x1,x2,x3⟩:=XO5.out.cells4;have qn:w5.cell? ⟨w.heap.size+1,0,none⟩=some (.int .i64 n):=XN5.out.cell 0;have hle:¬(60:Int)<=(n1:Int):=by omega
 have hlw3:n3<=2097152:=by unfold aQ at hw;simp only at hw;omega
 go_wp2_with fail
 clear q0 q1 q2 q3;obtain ⟨i1,hi1,hy0,hy1,hy2⟩:=info_parts Tryz.infoWr;obtain ⟨fpC,mC,rC⟩:=C5.out.mine;have MC:=aa mC;have RC:=aa rC;clear mC rC;have HX5:=aa (h5.below B5.out);have L1:Hid (cs.length+1<=maxLen):=by unfold Hid maxLen;omega
 have L2:Hid ((cs.length+1)*32<=140737488355328):=by unfold Hid;omega
 have hS:w5.drew.cell? ⟨w1.heap.size,1,none⟩=some (.slice b1 n1 e1)/\w5.drew.cell? ⟨w.heap.size+1,0,none⟩=some (.int .i64 n):=⟨XO5.out.cell 1,XN5.out.cell 0⟩;clear x0 x1 x2 x3 qn hle;refine ah.start (S:=fun w'=>w'.cell? ⟨w1.heap.size,1,none⟩=some (.slice b1 n1 e1)/\w'.cell? ⟨w.heap.size+1,0,none⟩=some (.int .i64 n)) (k:=9) (by kernel_rfl) ?_
 refine ah.t 0 hS ?_
 refine ah.t 1 hS ?_
 refine ah.t 2 hS ?_
 refine ah.t 3 hS ?_
 refine ah.one (i:=4) (by kernel_rfl) rfl (fun K hK=>?_)
 go_simp
 refine (bZ _ _ _ _ sw (by exact HX5.out.drew) (by omega)).mono ?_
 rintro e wc ⟨ac,cc,rfl,oc,hbd⟩;have hbc:Below w5.heap.size w5 wc:=(by exact (Below.refl w5.heap.size w5).drew.trans hbd);obtain ⟨fpx,mx,rx⟩:=Ty.Own.mine (lo:=w5.heap.size) oc;have MX:=aa mx;have RX:=aa rx;clear mx rx oc hbd;have xoc:Box wc w1.heap.size 101 _:=XO5.out.below hbc (by omega);have xnc:Box wc (w.heap.size+1) 3 _:=XN5.out.below hbc (by omega);have hS3:wc.cell? ⟨w1.heap.size,1,none⟩=some (.slice b1 n1 e1)/\wc.cell? ⟨w.heap.size+1,0,none⟩=some (.int .i64 n):=⟨xoc.cell 1,xnc.cell 0⟩;have hS4:(wc.alloc (.cells #[.int .i64 n,.slice ac n5 cc] 171)).cell? ⟨w1.heap.size,1,none⟩=some (.slice b1 n1 e1)/\(wc.alloc (.cells #[.int .i64 n,.slice ac n5 cc] 171)).cell? ⟨w.heap.size+1,0,none⟩=some (.int .i64 n):=⟨(xoc.alloc (.cells #[.int .i64 n,.slice ac n5 cc] 171)).cell 1,(xnc.alloc (.cells #[.int .i64 n,.slice ac n5 cc] 171)).cell 0⟩;have XOC:=aa xoc;have XNC:=aa xnc;have HBC:=aa hbc;clear xoc hbc xnc;go_wp2_with fail
 refine hK.out _ _ (fun _=>hS3) ?_
 clear hK K;refine ah.t 5 hS3 ?_
 refine ah.one (i:=6) (by kernel_rfl) rfl (fun K hK=>?_)
 go_simp
 refine hK.out _ _ (fun _=>hS4) ?_
 clear hK K;refine ah.one (i:=7) (by kernel_rfl) rfl (fun K hK=>?_)
 refine cF tWr (by rfl) _ _ 99 (by rfl) 171 i1 (.agg #[.int .i64 0,.slice none 0 0]) 32 Tryz.underlying99 hi1 hy0 hy1 hy2 rfl Nat.zero_lt_two (.slice b1 n1 e1) cs fpC (by rfl) ?_ ⟨wc.heap.size,0,none⟩ 1 [.int .i64 n,.slice ac n5 cc] (n,sw) fpx (by rfl) ?_ ?_ ?_ ?_ L1.out L2.out ?_
 . exact (MC.out.below HBC.out).alloc _
 . exact (dK n MX.out).alloc _
 . intro b hb hb'
   have h1:=RC.out b hb;have h2:=RX.out b hb';omega
 . exact bk _ _ _
 . intro u hu
   simp at hu
   rcases hu with hu|hu<;>(rw [hu];rfl)
 intro g cap wA fpA m1' m2' m3';rw [hl1] at m1' ⊢;have zB:(wc.alloc (.cells #[.int .i64 n,.slice ac n5 cc] 171)).heap.size=wc.heap.size+1:=by simp
 have ya:Box wA w1.heap.size 101 _:=(XOC.out.alloc _).turned m3' (fun hm=>by have:=RC.out _ hm;omega);have yn:Box wA (w.heap.size+1) 3 _:=(XNC.out.alloc _).turned m3' (fun hm=>by have:=RC.out _ hm;omega);have hS5:wA.cell? ⟨w1.heap.size,1,none⟩=some (.slice b1 n1 e1)/\wA.cell? ⟨w.heap.size+1,0,none⟩=some (.int .i64 n):=⟨ya.cell 1,yn.cell 0⟩;have c9:=hS5.1;have fz:=ya.frozen 1;have YA:=aa ya;have M1:=aa m1';have M2:=aa m2';have M3:=aa m3';have ZB:=aa zB;clear ya m1' m2' m3' zB yn;refine hK.out _ _ (fun _=>hS5) ?_
 clear hK K;simp only [Act.put,List.setIfInBounds_toArray,List.set_cons_zero,List.set_cons_succ]
 refine ah.t 8 hS5 ?_
 refine ah.one (i:=9) (by kernel_rfl) rfl (fun K hK=>?_)
 go_simp
 refine hK.out _ _ (fun h=>absurd rfl h) ?_
 clear hK K;refine ah.done (by kernel_rfl) ?_ _
 have zc:=HBC.out.size;have zA:=M3.out.size;have zB:=ZB.out;have hb6:But m2 (w1.heap.size+1) w5 (wA.setCell ⟨w1.heap.size,1,none⟩ (.slice (some ⟨g,0,none⟩) (n1+1) cap)):=((But.of_below (Below.andThen HBC.out ((Below.refl _ _).alloc (Nat.le_refl _) _))).trans (M3.out.but (fun b hb=>by have:=RC.out b hb;omega))).trans (But.setCell (by omega) (by omega) _);have rA:∀b∈fpA,m2<=b/\b≠w1.heap.size/\b<wA.heap.size:=fun b hb=>by
  have hlt:=M1.out.lt b hb;rcases M2.out b hb with h|h|h
  . have:=RC.out b h
    omega
  . have:=RX.out b h
    omega
  have:=h.1;omega
 have mZ:=M1.out.setCell (g:=w1.heap.size) (j:=1) (fun hm=>by have:=rA _ hm;omega) (.slice (some ⟨g,0,none⟩) (n1+1) cap);have yZ:=YA.out.set 1 (.slice (some ⟨g,0,none⟩) (n1+1) cap);have zs:wA.heap.size<=(wA.setCell ⟨w1.heap.size,1,none⟩ (.slice (some ⟨g,0,none⟩) (n1+1) cap)).heap.size:=by simp
 have MZ:=aa mZ;have RZ:Hid (∀b∈fpA,m2<=b/\b≠w1.heap.size/\b<(wA.setCell ⟨w1.heap.size,1,none⟩ (.slice (some ⟨g,0,none⟩) (n1+1) cap)).heap.size):=fun b hb=>by have:=rA b hb;omega
 have YZ:=aa yZ;clear mZ rA yZ zs zA zB zc hS hS3 hS4 hS5 c9 fz YA M1 M2 M3 ZB XOC MX RX HBC MC RC HX5 L1 L2 XNC;clear XO5;clear C5;have B6:=aa (Below.andBut B5.out hb6 (by omega));have XM6:=aa (XM5.out.kept (hb6.block _ (by omega) (by omega)));have XN6:=aa (XN5.out.kept (hb6.block _ (by omega) (by omega)));have XR6:=aa (XR5.out.kept (hb6.block _ (by omega) (by omega)));have S6:=aa (S5.out.but hb6 (by omega));have D6:=aa (D5.out.but hb6 (by omega));have z6:=hb6.size;clear B5 XM5 XN5 XR5 S5 D5 hb6;generalize (wA.setCell ⟨w1.heap.size,1,none⟩ (.slice (some ⟨g,0,none⟩) (n1+1) cap))=w6 at B6 XM6 XN6 XR6 S6 D6 z6 MZ RZ YZ ⊢;have XO6:Hid (Box w6 w1.heap.size 101 #[.slice b0 n0 e0,.slice (some ⟨g,0,none⟩) (n1+1) cap,.bool false,.slice b3 n3 e3]):=YZ.out;clear YZ;have hmf:∀(fn:Fn) (first cap:Array Value) (w:World),(Instr.makeFunc fn first cap).run Tryz.prog w=.ok (.func fn first cap) w:=fun _ _ _ _=>rfl;obtain ⟨x0,x1,x2,x3⟩:=XO6.out.cells4;have HCN:Hid (w6.cell? ⟨w.heap.size+1,0,none⟩=some (.int .i64 n)):=XN6.out.cell 0;go_wp2_with fail
 refine (lM _ W.heap.size m1 _ _ _ bs n (w.heap.size+1) D6.out HCN.out (by omega) (by omega)).mono ?_
 rintro e wb ⟨d3,f3,rfl,od,hbB⟩;have zb:=hbB.size;have xob:Box wb w1.heap.size 101 _:=XO6.out.kept (hbB.block _ (by omega) (by omega));clear x0 x1 x2 x3;obtain ⟨x0,x1,x2,x3⟩:=xob.cells4;have fz:=xob.frozen 3;have XOB:=aa xob;have OD:=aa od;have HBB:=aa hbB;clear xob od hbB;have bs9:=But.setCell (lo:=w1.heap.size) (hi:=w1.heap.size+1) (g:=w1.heap.size) (j:=3) (w:=wb) (Nat.le_refl _) (Nat.lt_succ_self _) (.slice d3 (cO bs n).length f3);have zt:=bs9.size;have MY:=aa ((MZ.out.but HBB.out (fun b hb=>by have:=RZ.out b hb;omega)).but bs9 (fun b hb=>by have:=RZ.out b hb;omega));have YZ:=aa (XOB.out.set 3 (.slice d3 (cO bs n).length f3));have D7:=aa (OD.out.but bs9 (.inl (by omega)));have S7:=aa ((S6.out.but HBB.out (.inr (Nat.le_refl _))).but bs9 (.inl (by omega)));have XR7:=aa ((XR6.out.kept (HBB.out.block _ (by omega) (by omega))).kept (bs9.block _ (by omega) (by omega)));have B7:=aa (Below.andBut (Below.andBut B6.out HBB.out (by omega)) bs9 (by omega));have RY:Hid (∀b∈fpA,m2<=b/\b<(wb.setCell ⟨w1.heap.size,3,none⟩ (.slice d3 (cO bs n).length f3)).heap.size):=fun b hb=>by have:=RZ.out b hb;omega
 have z7:w6.heap.size<=(wb.setCell ⟨w1.heap.size,3,none⟩ (.slice d3 (cO bs n).length f3)).heap.size:=by omega
 clear bs9 zt zb XOB OD HBB MZ RZ HCN hmf B6 XM6 XN6 XR6 S6 D6 XO6;obtain ⟨t0,t1,t2,t3⟩:=Box.cells4 (v0:=.slice b0 n0 e0) (v1:=.slice (some ⟨g,0,none⟩) (n1+1) cap) (v2:=.bool false) (v3:=.slice d3 (cO bs n).length f3) YZ.out;obtain ⟨p0,p1,p2,p3⟩:=XR7.out.cells4;have fr:=XR7.out.frozen;go_wp2
 generalize (wb.setCell ⟨w1.heap.size,3,none⟩ (.slice d3 (cO bs n).length f3))=w7 at B7 S7 D7 XR7 MY RY YZ z7 p0 p1 p2 p3 fr t0 t1 t2 t3 ⊢;have hbt:But (w.heap.size+2) (w.heap.size+2+1) w7 ((((w7.setCell ⟨w.heap.size+2,0,none⟩ (.slice b0 n0 e0)).setCell ⟨w.heap.size+2,1,none⟩ (.slice (some ⟨g,0,none⟩) (n1+1) cap)).setCell ⟨w.heap.size+2,2,none⟩ (.bool false)).setCell ⟨w.heap.size+2,3,none⟩ (.slice d3 (cO bs n).length f3)):=
  (((But.setCell (by omega) (by omega) _).trans (But.setCell (by omega) (by omega) _)).trans (But.setCell (by omega) (by omega) _)).trans (But.setCell (by omega) (by omega) _)
 have z99:=hbt.size;refine bodyPost_ret (v:=.tuple #[.agg #[.slice b0 n0 e0,.slice (some ⟨g,0,none⟩) (n1+1) cap,.bool false,.slice d3 (cO bs n).length f3],.bool true]) (by simp [results,Tryz.results256,go_sem,p0,p1,p2,p3]) rfl ?_
 have FIN:Hid ((bR 171).Own ((((w7.setCell ⟨w.heap.size+2,0,none⟩ (.slice b0 n0 e0)).setCell ⟨w.heap.size+2,1,none⟩ (.slice (some ⟨g,0,none⟩) (n1+1) cap)).setCell ⟨w.heap.size+2,2,none⟩ (.bool false)).setCell ⟨w.heap.size+2,3,none⟩ (.slice d3 (cO bs n).length f3)) w.heap.size ((((w7.setCell ⟨w.heap.size+2,0,none⟩ (.slice b0 n0 e0)).setCell ⟨w.heap.size+2,1,none⟩ (.slice (some ⟨g,0,none⟩) (n1+1) cap)).setCell ⟨w.heap.size+2,2,none⟩ (.bool false)).setCell ⟨w.heap.size+2,3,none⟩ (.slice d3 (cO bs n).length f3)).heap.size [.slice b0 n0 e0,.slice (some ⟨g,0,none⟩) (n1+1) cap,.bool false,.slice d3 (cO bs n).length f3] (ss,cs++[(n,sw)],false,cO bs n)):=ch (S7.out.but hbt (by omega)) ((MY.out.own (lo:=m2) (hi:=w7.heap.size) (fun b hb=>RY.out b hb)).but hbt (by omega)) (D7.out.but hbt (by omega)) (by omega) (by omega) (by omega) (by omega) (by omega) (by omega);have FB:=aa (Below.andBut B7.out hbt (by omega));exact ⟨_,_,_,by rw [HK.out.1],by rw [HK.out.2.1,HK.out.2.2];exact FIN.out,FB.out⟩
theorem nn (w:World) (a:Option Addr) (len cap:Nat) (zs:List Int) (n:Int) (h:aA.Rd w [.slice a len cap] zs) (hlen:len<=2097152):
 Calls Tryz.prog 265 #[.slice a len cap,.int .i64 n] w fun e w'=>∃v,e=.returned v/\aA.Own w' w.heap.size w'.heap.size [v] (cO zs n)/\Below w.heap.size w w':=by
 obtain ⟨hr,hl,_,_⟩:=aP h;obtain ⟨i3,hi3,hx0,hx1,hx2⟩:=info_parts Tryz.info3;go_enter Tryz.func265,Tryz.ntmps265
 go_wp2
 go_loopw [5,6] (fun v i wr=>∃(j:Nat) (fp:List Nat),j<=len/\i=.int .i64 j/\aA.Mine wr [v] (cO (zs.take j) n) fp/\(∀b∈fp,w.heap.size<=b)/\Below w.heap.size w wr) (fun _ i _=>len-(intOf i).toNat)
 case atStart=>exact ⟨0,[w.heap.size],Nat.zero_le _,rfl,dJ _,by simp,(Below.refl _ _).alloc (Nat.le_refl _) _⟩
 obtain ⟨j,fp,hj,rfl,hm,hfp,hb⟩:=hrel;have hs:=hb.size;by_cases hlt:j<len
 . rcases hr.cases with h0|⟨b,off,rfl,hbl,hcz⟩
   . omega
   have hc1:=(hb.cell (p:=⟨b,off+j,none⟩) hbl).trans (hcz j (by omega));have htk:zs.take (j+1)=zs.take j++[zs.getD j 0]:=by rw [List.take_add_one,List.getD_eq_getElem?_getD,List.getElem?_eq_getElem (by omega)];rfl
   generalize zs.getD j 0=x at hc1 htk;have k1:(0:Int)<=(j:Int):=by omega
   have k2:(j:Int)<(len:Int):=by omega
   have HTK:=aa htk;clear hcz htk;by_cases hxn:x=n
   . have HF:Hid (cO (zs.take (j+1)) n=cO (zs.take j) n):=by unfold Hid;rw [HTK.out,gV,if_pos hxn]
     subst hxn;go_wp2
     go_roundw
     case rel=>exact ⟨j+1,fp,by omega,by go_num,by rw [HF.out];exact hm,hfp,hb⟩
     case measure=>simp [intOf];omega
   have HF:Hid (cO (zs.take (j+1)) n=cO (zs.take j) n++[x]):=by unfold Hid;rw [HTK.out,gV,if_neg hxn]
   have MA:=aa (hm.alloc (.cells #[.int .i64 x] 3));have LI:Hid (ey.Mine (wr.alloc (.cells #[.int .i64 x] 3)) [.int .i64 x] x []):=⟨⟨rfl,rfl⟩,by simp⟩;have NN:=aa (bk wr #[.int .i64 x] 3);have BA:=aa (hb.alloc hs (.cells #[.int .i64 x] 3));have ZA:Hid ((wr.alloc (.cells #[.int .i64 x] 3)).heap.size=wr.heap.size+1):=by unfold Hid;simp
   have hkl:=kT (zs.take j) n;rw [List.length_take] at hkl;have L1:Hid ((cO (zs.take j) n).length+1<=maxLen):=by unfold Hid maxLen;omega
   have L2:Hid (((cO (zs.take j) n).length+1)*8<=140737488355328):=by unfold Hid;omega
   have HFP:=aa hfp;clear hm hfp hb hkl;go_wp2_with (at_builtin;refine bT ey rfl (.tmp 20) (.tmp 25) 31 rfl 3 i3 (.int .i64 0) 8 Tryz.underlying31 hi3 hx0 hx1 hx2 rfl Nat.zero_lt_one u5 (cO (zs.take j) n) fp rfl ?_ ⟨wr.heap.size,0,none⟩ 1 [.int .i64 x] x [] rfl ?_ ?_ ?_ ?_ ?_ ?_ ?_;exact MA.out;exact LI.out;simp;exact NN.out;(intro u hu;simp at hu;rw [hu];rfl);exact L1.out;exact L2.out;intro v2 w2 fp2 m1 m2 m3;rw [←HF.out] at m1;have M1:=aa m1;have M2:=aa m2;have M3:=aa m3;clear m1 m2 m3)
   have hf2:∀b∈fp2,w.heap.size<=b:=fun b hb=>by
    rcases M2.out b hb with h|h|h
    . exact HFP.out b h
    . simp at h
    have h1:=h.1;have h2:=ZA.out;omega
   have HB:=aa (BA.out.trans (M3.out.below (N:=w.heap.size) (by have:=ZA.out;omega) (fun b hb=>HFP.out b hb)));have HF2:=aa hf2;clear hf2;go_roundw
   case rel=>exact ⟨j+1,fp2,by omega,by go_num,M1.out,HF2.out,HB.out⟩
   case measure=>simp [intOf];omega
 have e:j=len:=by omega
 subst e;rw [List.take_of_length_le (by omega)] at hm;have hltb:=hm.lt;have HO:=aa (hm.own (lo:=w.heap.size) (hi:=wr.heap.size) (fun b hb'=>⟨hfp b hb',hltb b hb'⟩));go_wp2
 go_ret
 exact ⟨_,rfl,HO.out,hb⟩
theorem gW (w:World) (E:TypeId) (a0 a1 a3 a5:Option Addr) (n0 c0 n1 c1 n3 c3 n5 c5:Nat) (ss:List (List Int)) (cs:List (Int×List Int)) (f:Bool) (bs:List Int) (n:Int) (sw:List Int) (h0:aT.Rd w [.slice a0 n0 c0] ss) (h1:(aU E).Rd w [.slice a1 n1 c1] cs) (h3:aA.Rd w [.slice a3 n3 c3] bs) (h5:aA.Rd w [.slice a5 n5 c5] sw) (hw:aQ (ss,cs,f,bs)<=2097152) (hw5:n5<=2097152):
 Calls Tryz.prog 230 #[.agg #[.slice a0 n0 c0,.slice a1 n1 c1,.bool f,.slice a3 n3 c3],.int .i64 n,.slice a5 n5 c5] w fun e w'=>∃v0 v1 v3,e=.returned (.tuple #[.agg #[v0,v1,.bool f,v3],.bool (cV ss cs f bs n sw)])/\(bR 171).Own w' w.heap.size w'.heap.size [v0,v1,.bool f,v3] (ss,dP ss cs f bs n sw,f,dQ ss cs f bs n sw)/\Below w.heap.size w w':=by
 obtain ⟨hl0,_,hm0⟩:=af h0;obtain ⟨hl1,_,hm1⟩:=af h1;obtain ⟨hl3,_,hm3⟩:=af h3;obtain ⟨hl5,_,hm5⟩:=af h5;have hA:Below w.heap.size w ((w.alloc (.cells #[.slice a0 n0 c0,.slice a1 n1 c1,.bool f,.slice a3 n3 c3] 101)).alloc (.cells #[.slice none 0 0,.slice none 0 0,.bool false,.slice none 0 0] 101)):=((Below.refl _ _).alloc (Nat.le_refl _) _).alloc (by simp) _;have xm:Box ((w.alloc (.cells #[.slice a0 n0 c0,.slice a1 n1 c1,.bool f,.slice a3 n3 c3] 101)).alloc (.cells #[.slice none 0 0,.slice none 0 0,.bool false,.slice none 0 0] 101)) w.heap.size 101 #[.slice a0 n0 c0,.slice a1 n1 c1,.bool f,.slice a3 n3 c3]:=(Box.new w _ _).alloc _;have xr:Box ((w.alloc (.cells #[.slice a0 n0 c0,.slice a1 n1 c1,.bool f,.slice a3 n3 c3] 101)).alloc (.cells #[.slice none 0 0,.slice none 0 0,.bool false,.slice none 0 0] 101)) (w.heap.size+1) 101 #[.slice none 0 0,.slice none 0 0,.bool false,.slice none 0 0]:=by
  have:=Box.new (w.alloc (.cells #[.slice a0 n0 c0,.slice a1 n1 c1,.bool f,.slice a3 n3 c3] 101)) 101 #[.slice none 0 0,.slice none 0 0,.bool false,.slice none 0 0];rw [show (w.alloc (.cells #[.slice a0 n0 c0,.slice a1 n1 c1,.bool f,.slice a3 n3 c3] 101)).heap.size=w.heap.size+1 by simp] at this;exact this
 go_enter Tryz.func230,Tryz.ntmps230
 go_wp2_with fail
 generalize hW:(w.alloc (.cells #[.slice a0 n0 c0,.slice a1 n1 c1,.bool f,.slice a3 n3 c3] 101)).alloc (.cells #[.slice none 0 0,.slice none 0 0,.bool false,.slice none 0 0] 101)=W at hA xm xr ⊢;clear hW;have zr:=xr.lt;have B0:=aa hA;clear hA;have XM0:=aa xm;clear xm;have XR0:=aa xr;clear xr;refine (en _ E _ _ _ _ _ _ _ _ _ ss cs f bs (h0.below B0.out) (h1.below B0.out) (h3.below B0.out) hw).mono ?_
 intro e w1 hc;obtain ⟨b0,b1,b3,e0,e1,e3,m1,m2,rfl,o3,o0,o1,r1,r2,r3,hb1⟩:=cQ hl0 hl1 hl3 hc;clear hc;have B1:=aa (Below.andThen B0.out hb1);have XM1:=aa (XM0.out.below hb1 (by omega));have XR1:=aa (XR0.out.below hb1 (by omega));have z1:=hb1.size;clear B0 XM0 XR0 hb1;have S1:=aa o0;clear o0;have C1:=aa o1;clear o1;have D1:=aa o3;clear o3;have ba:Below w1.heap.size w1 (w1.alloc (.cells #[.slice b0 n0 e0,.slice b1 n1 e1,.bool f,.slice b3 n3 e3] 101)):=(Below.refl _ _).alloc (Nat.le_refl _) _;have yo:=Box.new w1 101 #[.slice b0 n0 e0,.slice b1 n1 e1,.bool f,.slice b3 n3 e3];have zo:=yo.lt;have B2:=aa (Below.andThen B1.out ba);have XM2:=aa (XM1.out.below ba (by omega));have XR2:=aa (XR1.out.below ba (by omega));have S2:=aa (S1.out.below ba);have C2:=aa (C1.out.below ba);have D2:=aa (D1.out.below ba);have z2:=ba.size;clear B1 XM1 XR1 S1 C1 D1 ba;have XO2:=aa yo;clear yo;have sW:w.heap.size+1<W.heap.size:=zr;obtain ⟨q0,q1,q2,q3⟩:=XM2.out.cells4;go_wp2_with fail
 generalize w1.alloc (.cells #[.slice b0 n0 e0,.slice b1 n1 e1,.bool f,.slice b3 n3 e3] 101)=w2 at B2 XM2 XR2 S2 C2 D2 XO2 z2 zo q0 q1 q2 q3 ⊢;refine (aW _ E _ _ _ _ _ _ _ _ _ ss cs f bs (h0.below B2.out) (h1.below B2.out) (h3.below B2.out) hw).mono ?_
 rintro e w3 ⟨rfl,hb3⟩;clear q0 q1 q2 q3;have B3:=aa (Below.andThen B2.out hb3);have XM3:=aa (XM2.out.below hb3 (by omega));have XR3:=aa (XR2.out.below hb3 (by omega));have S3:=aa (S2.out.below hb3);have C3:=aa (C2.out.below hb3);have D3:=aa (D2.out.below hb3);have XO3:=aa (XO2.out.below hb3 (by omega));have z3:=hb3.size;clear B2 XM2 XR2 S2 C2 D2 XO2 hb3;cases hM:bp ss cs bs
 . have HK:Hid (cV ss cs f bs n sw=false/\dP ss cs f bs n sw=cs/\dQ ss cs f bs n sw=bs):=by
    have hk:cV ss cs f bs n sw=false:=by unfold cV;simp [hM]
    unfold dP dQ;exact ⟨hk,by rw [hk];rfl,by rw [hk];rfl⟩
   obtain ⟨q0,q1,q2,q3⟩:=XM3.out.cells4;obtain ⟨x0,x1,x2,x3⟩:=XO3.out.cells4;obtain ⟨p0,p1,p2,p3⟩:=XR3.out.cells4;have fz:=XR3.out.frozen;have FIN:=aa (dO (f:=f) B3.out D3.out S3.out C3.out r2 r1 r3 (by omega) sW (by omega));clear B3 XM3 XR3 S3 C3 D3 XO3;go_wp2
   refine bodyPost_ret (v:=.tuple #[.agg #[.slice b0 n0 e0,.slice b1 n1 e1,.bool f,.slice b3 n3 e3],.bool false]) (by simp [results,Tryz.results230,go_sem,p0,p1,p2,p3]) rfl ?_
   exact ⟨_,_,_,by rw [HK.out.1],by rw [HK.out.2.1,HK.out.2.2];exact FIN.out.1,FIN.out.2⟩
 cases f;rotate_left
 . skip
   have HK:Hid (cV ss cs true bs n sw=false/\dP ss cs true bs n sw=cs/\dQ ss cs true bs n sw=bs):=by
    have hk:cV ss cs true bs n sw=false:=by unfold cV;simp [hM]
    unfold dP dQ;exact ⟨hk,by rw [hk];rfl,by rw [hk];rfl⟩
   obtain ⟨q0,q1,q2,q3⟩:=XM3.out.cells4;obtain ⟨x0,x1,x2,x3⟩:=XO3.out.cells4;obtain ⟨p0,p1,p2,p3⟩:=XR3.out.cells4;have fz:=XR3.out.frozen;have FIN:=aa (dO (f:=true) B3.out D3.out S3.out C3.out r2 r1 r3 (by omega) sW (by omega));clear B3 XM3 XR3 S3 C3 D3 XO3;go_wp2
   refine bodyPost_ret (v:=.tuple #[.agg #[.slice b0 n0 e0,.slice b1 n1 e1,.bool true,.slice b3 n3 e3],.bool false]) (by simp [results,Tryz.results230,go_sem,p0,p1,p2,p3]) rfl ?_
   exact ⟨_,_,_,by rw [HK.out.1],by rw [HK.out.2.1,HK.out.2.2];exact FIN.out.1,FIN.out.2⟩
 obtain ⟨q0,q1,q2,q3⟩:=XM3.out.cells4;have gw:IntKind.i64.wrap ((n0:Int)-1)=(n0:Int)-1:=IntWalk.i64_in _ (by omega);go_wp2_with fail
 refine (aE _ _ _ _).mono ?_
 rintro e w4 ⟨rfl,hw4⟩;have hs4:aN w3 w4:=by rw [hw4];exact aN.refl _
 clear hw4 gw;clear q0 q1 q2 q3;have B4:=aa (Below.andSame B3.out hs4);have XM4:=aa (XM3.out.same hs4);have XR4:=aa (XR3.out.same hs4);have S4:=aa (S3.out.same hs4);have C4:=aa (C3.out.same hs4);have D4:=aa (D3.out.same hs4);have XO4:=aa (XO3.out.same hs4);have z4:=Nat.le_of_eq hs4.size.symm;clear B3 XM3 XR3 S3 C3 D3 XO3 hs4;cases hI:inB n 0 ((n0:Int)-1)
 . have hI2:inB n 0 ((ss.length:Int)-1)=false:=by rw [hl0];exact hI
   have HK:Hid (cV ss cs false bs n sw=false/\dP ss cs false bs n sw=cs/\dQ ss cs false bs n sw=bs):=by
    have hk:cV ss cs false bs n sw=false:=by unfold cV;simp [hI2]
    unfold dP dQ;exact ⟨hk,by rw [hk];rfl,by rw [hk];rfl⟩
   obtain ⟨q0,q1,q2,q3⟩:=XM4.out.cells4;obtain ⟨x0,x1,x2,x3⟩:=XO4.out.cells4;obtain ⟨p0,p1,p2,p3⟩:=XR4.out.cells4;have fz:=XR4.out.frozen;have FIN:=aa (dO (f:=false) B4.out D4.out S4.out C4.out r2 r1 r3 (by omega) sW (by omega));clear B4 XM4 XR4 S4 C4 D4 XO4;go_wp2
   refine bodyPost_ret (v:=.tuple #[.agg #[.slice b0 n0 e0,.slice b1 n1 e1,.bool false,.slice b3 n3 e3],.bool false]) (by simp [results,Tryz.results230,go_sem,p0,p1,p2,p3]) rfl ?_
   exact ⟨_,_,_,by rw [HK.out.1],by rw [HK.out.2.1,HK.out.2.2];exact FIN.out.1,FIN.out.2⟩
 obtain ⟨q0,q1,q2,q3⟩:=XM4.out.cells4;go_wp2_with fail
 refine (dY _ _ _ _ sw hl5 (aP (h5.below B4.out)).1 hw5).mono ?_
 rintro e w5 ⟨rfl,hs5⟩;clear q0 q1 q2 q3;have B5:=aa (Below.andSame B4.out hs5);have XM5:=aa (XM4.out.same hs5);have XR5:=aa (XR4.out.same hs5);have S5:=aa (S4.out.same hs5);have C5:=aa (C4.out.same hs5);have D5:=aa (D4.out.same hs5);have XO5:=aa (XO4.out.same hs5);have z5:=Nat.le_of_eq hs5.size.symm;clear B4 XM4 XR4 S4 C4 D4 XO4 hs5;cases hS:da sw
 . have HK:Hid (cV ss cs false bs n sw=false/\dP ss cs false bs n sw=cs/\dQ ss cs false bs n sw=bs):=by
    have hk:cV ss cs false bs n sw=false:=by unfold cV;simp [hS]
    unfold dP dQ;exact ⟨hk,by rw [hk];rfl,by rw [hk];rfl⟩
   obtain ⟨q0,q1,q2,q3⟩:=XM5.out.cells4;obtain ⟨x0,x1,x2,x3⟩:=XO5.out.cells4;obtain ⟨p0,p1,p2,p3⟩:=XR5.out.cells4;have fz:=XR5.out.frozen;have FIN:=aa (dO (f:=false) B5.out D5.out S5.out C5.out r2 r1 r3 (by omega) sW (by omega));clear B5 XM5 XR5 S5 C5 D5 XO5;go_wp2
   refine bodyPost_ret (v:=.tuple #[.agg #[.slice b0 n0 e0,.slice b1 n1 e1,.bool false,.slice b3 n3 e3],.bool false]) (by simp [results,Tryz.results230,go_sem,p0,p1,p2,p3]) rfl ?_
   exact ⟨_,_,_,by rw [HK.out.1],by rw [HK.out.2.1,HK.out.2.2];exact FIN.out.1,FIN.out.2⟩
 by_cases hL:n1<60
 rotate_left
 . have hL':(60:Int)<=(n1:Int):=by omega
   have hL2:¬cs.length<60:=by omega
   have HK:Hid (cV ss cs false bs n sw=false/\dP ss cs false bs n sw=cs/\dQ ss cs false bs n sw=bs):=by
    have hk:cV ss cs false bs n sw=false:=by unfold cV;simp [hL2]
    unfold dP dQ;exact ⟨hk,by rw [hk];rfl,by rw [hk];rfl⟩
   obtain ⟨q0,q1,q2,q3⟩:=XM5.out.cells4;obtain ⟨x0,x1,x2,x3⟩:=XO5.out.cells4;obtain ⟨p0,p1,p2,p3⟩:=XR5.out.cells4;have fz:=XR5.out.frozen;have FIN:=aa (dO (f:=false) B5.out D5.out S5.out C5.out r2 r1 r3 (by omega) sW (by omega));clear B5 XM5 XR5 S5 C5 D5 XO5;go_wp2
   refine bodyPost_ret (v:=.tuple #[.agg #[.slice b0 n0 e0,.slice b1 n1 e1,.bool false,.slice b3 n3 e3],.bool false]) (by simp [results,Tryz.results230,go_sem,p0,p1,p2,p3]) rfl ?_
   exact ⟨_,_,_,by rw [HK.out.1],by rw [HK.out.2.1,HK.out.2.2];exact FIN.out.1,FIN.out.2⟩
 have hL':¬(60:Int)<=(n1:Int):=by omega
 have HK:Hid (cV ss cs false bs n sw=true/\dP ss cs false bs n sw=cs++[(n,sw)]/\dQ ss cs false bs n sw=cO bs n):=by
  have hk:cV ss cs false bs n sw=true:=by unfold cV;rw [hM,hl0,hI,hS,decide_eq_true (by omega)];rfl
  unfold dP dQ;exact ⟨hk,by rw [hk];rfl,by rw [hk];rfl⟩
 clear hM hI hS;obtain ⟨q0,q1,q2,q3⟩:=XM5.out.cells4;obtain ⟨x0,x1,x2,x3⟩:=XO5.out.cells4;have hle:¬(60:Int)<=(n1:Int):=by omega
 have hlw3:n3<=2097152:=by unfold aQ at hw;simp only at hw;omega
 go_wp2_with fail
 clear q0 q1 q2 q3;obtain ⟨i1,hi1,hy0,hy1,hy2⟩:=info_parts Tryz.infoWr;obtain ⟨i3,hi3,hx0,hx1,hx2⟩:=info_parts Tryz.info3;obtain ⟨fpC,mC,rC⟩:=C5.out.mine;have MC:=aa mC;have RC:=aa rC;clear mC rC;have HX5:=aa (h5.below B5.out);have L1:Hid (cs.length+1<=maxLen):=by unfold Hid maxLen;omega
 have L2:Hid ((cs.length+1)*32<=140737488355328):=by unfold Hid;omega
 have hS:w5.drew.cell? ⟨w1.heap.size,1,none⟩=some (.slice b1 n1 e1):=XO5.out.cell 1;clear x0 x1 x2 x3 hle;have bA:Below w5.heap.size w5 (w5.alloc (.cells #[] 3)):=(Below.refl _ _).alloc (Nat.le_refl _) _;have hS2:(w5.alloc (.cells #[] 3)).drew.cell? ⟨w1.heap.size,1,none⟩=some (.slice b1 n1 e1):=(XO5.out.alloc (.cells #[] 3)).cell 1;have HG:Hid ((w5.alloc (.cells #[] 3)).drew.heap[w5.heap.size]?=some (.cells #[] 3 (0,0))):=Box.new w5 3 #[];have RD:Hid (aA.Rd (w5.alloc (.cells #[] 3)).drew [.slice a5 n5 c5] sw):=(HX5.out.below bA).drew;have BA:=aa bA;clear bA;refine ah.start (S:=fun w'=>w'.cell? ⟨w1.heap.size,1,none⟩=some (.slice b1 n1 e1)) (k:=10) (by kernel_rfl) ?_
 refine ah.t 0 hS ?_
 refine ah.t 1 hS ?_
 refine ah.t 2 hS ?_
 refine ah.t 4 hS ?_
 refine ah.one (i:=3) (by kernel_rfl) rfl (fun K hK=>?_)
 go_simp
 refine hK.out _ _ (fun _=>hS2) ?_
 clear hK K;refine ah.one (i:=5) (by kernel_rfl) rfl (fun K hK=>?_)
 refine dL (by rfl) _ _ 31 (by rfl) i3 Tryz.underlying31 hi3 hx0 hx1 hx2 w5.heap.size (by rfl) HG.out a5 n5 c5 sw (by rfl) RD.out (by omega) ?_
 intro ac cc wc fpx mx rx tx;have tx':aw [w5.heap.size] (w5.alloc (.cells #[] 3)) wc:=aw.undrew tx;have zA:(w5.alloc (.cells #[] 3)).heap.size=w5.heap.size+1:=by simp
 have zd:(w5.alloc (.cells #[] 3)).drew.heap.size=(w5.alloc (.cells #[] 3)).heap.size:=rfl;have hbc:Below w5.heap.size w5 wc:=BA.out.trans (tx'.below (N:=w5.heap.size) (by omega) (by simp));have RX:Hid (∀b∈fpx,w5.heap.size<=b/\b<wc.heap.size):=fun b hb=>by have:=rx b hb;omega
 have MX:=aa mx;clear mx rx tx tx' zA zd;have xoc:Box wc w1.heap.size 101 _:=XO5.out.below hbc (by omega);have hS3:wc.cell? ⟨w1.heap.size,1,none⟩=some (.slice b1 n1 e1):=xoc.cell 1;have hS4:(wc.alloc (.cells #[.int .i64 n,.slice ac n5 cc] 171)).cell? ⟨w1.heap.size,1,none⟩=some (.slice b1 n1 e1):=(xoc.alloc (.cells #[.int .i64 n,.slice ac n5 cc] 171)).cell 1;have XOC:=aa xoc;have HBC:=aa hbc;clear xoc hbc;refine hK.out _ _ (fun _=>hS3) ?_
 clear hK K;simp only [Act.put,List.setIfInBounds_toArray,List.set_cons_zero,List.set_cons_succ]
 refine ah.t 6 hS3 ?_
 refine ah.one (i:=7) (by kernel_rfl) rfl (fun K hK=>?_)
 go_simp
 refine hK.out _ _ (fun _=>hS4) ?_
 clear hK K;refine ah.one (i:=8) (by kernel_rfl) rfl (fun K hK=>?_)
 refine cF tWr (by rfl) _ _ 99 (by rfl) 171 i1 (.agg #[.int .i64 0,.slice none 0 0]) 32 Tryz.underlying99 hi1 hy0 hy1 hy2 rfl Nat.zero_lt_two (.slice b1 n1 e1) cs fpC (by rfl) ?_ ⟨wc.heap.size,0,none⟩ 1 [.int .i64 n,.slice ac n5 cc] (n,sw) fpx (by rfl) ?_ ?_ ?_ ?_ L1.out L2.out ?_
 . exact (MC.out.below HBC.out).alloc _
 . exact (dK n MX.out).alloc _
 . intro b hb hb'
   have h1:=RC.out b hb;have h2:=RX.out b hb';omega
 . exact bk _ _ _
 . intro u hu
   simp at hu
   rcases hu with hu|hu<;>(rw [hu];rfl)
 intro g cap wA fpA m1' m2' m3';rw [hl1] at m1' ⊢;have zB:(wc.alloc (.cells #[.int .i64 n,.slice ac n5 cc] 171)).heap.size=wc.heap.size+1:=by simp
 have ya:Box wA w1.heap.size 101 _:=(XOC.out.alloc _).turned m3' (fun hm=>by have:=RC.out _ hm;omega);have hS5:wA.cell? ⟨w1.heap.size,1,none⟩=some (.slice b1 n1 e1):=ya.cell 1;have c9:=hS5;have fz:=ya.frozen 1;have YA:=aa ya;have M1:=aa m1';have M2:=aa m2';have M3:=aa m3';have ZB:=aa zB;clear ya m1' m2' m3' zB;refine hK.out _ _ (fun _=>hS5) ?_
 clear hK K;simp only [Act.put,List.setIfInBounds_toArray,List.set_cons_zero,List.set_cons_succ]
 refine ah.t 9 hS5 ?_
 refine ah.one (i:=10) (by kernel_rfl) rfl (fun K hK=>?_)
 go_simp
 refine hK.out _ _ (fun h=>absurd rfl h) ?_
 clear hK K;refine ah.done (by kernel_rfl) ?_ _
 have zc:=HBC.out.size;have zA:=M3.out.size;have zB:=ZB.out;have hb6:But m2 (w1.heap.size+1) w5 (wA.setCell ⟨w1.heap.size,1,none⟩ (.slice (some ⟨g,0,none⟩) (n1+1) cap)):=((But.of_below (Below.andThen HBC.out ((Below.refl _ _).alloc (Nat.le_refl _) _))).trans (M3.out.but (fun b hb=>by have:=RC.out b hb;omega))).trans (But.setCell (by omega) (by omega) _);have rA:∀b∈fpA,m2<=b/\b≠w1.heap.size/\b<wA.heap.size:=fun b hb=>by
  have hlt:=M1.out.lt b hb;rcases M2.out b hb with h|h|h
  . have:=RC.out b h
    omega
  . have:=RX.out b h
    omega
  have:=h.1;omega
 have mZ:=M1.out.setCell (g:=w1.heap.size) (j:=1) (fun hm=>by have:=rA _ hm;omega) (.slice (some ⟨g,0,none⟩) (n1+1) cap);have yZ:=YA.out.set 1 (.slice (some ⟨g,0,none⟩) (n1+1) cap);have zs:wA.heap.size<=(wA.setCell ⟨w1.heap.size,1,none⟩ (.slice (some ⟨g,0,none⟩) (n1+1) cap)).heap.size:=by simp
 have MZ:=aa mZ;have RZ:Hid (∀b∈fpA,m2<=b/\b≠w1.heap.size/\b<(wA.setCell ⟨w1.heap.size,1,none⟩ (.slice (some ⟨g,0,none⟩) (n1+1) cap)).heap.size):=fun b hb=>by have:=rA b hb;omega
 have YZ:=aa yZ;clear mZ rA yZ zs zA zB zc hS hS3 hS4 hS5 c9 fz YA M1 M2 M3 ZB XOC MX RX HBC MC RC HX5 L1 L2 hS2 HG RD BA;clear XO5;clear C5;have B6:=aa (Below.andBut B5.out hb6 (by omega));have XM6:=aa (XM5.out.kept (hb6.block _ (by omega) (by omega)));have XR6:=aa (XR5.out.kept (hb6.block _ (by omega) (by omega)));have S6:=aa (S5.out.but hb6 (by omega));have D6:=aa (D5.out.but hb6 (by omega));have z6:=hb6.size;clear B5 XM5 XR5 S5 D5 hb6;generalize (wA.setCell ⟨w1.heap.size,1,none⟩ (.slice (some ⟨g,0,none⟩) (n1+1) cap))=w6 at B6 XM6 XR6 S6 D6 z6 MZ RZ YZ ⊢;have XO6:Hid (Box w6 w1.heap.size 101 #[.slice b0 n0 e0,.slice (some ⟨g,0,none⟩) (n1+1) cap,.bool false,.slice b3 n3 e3]):=YZ.out;clear YZ;obtain ⟨q0,q1,q2,q3⟩:=XM6.out.cells4;go_wp2_with fail
 refine (nn _ _ _ _ bs n (h3.below B6.out) (by omega)).mono ?_
 rintro e wb ⟨vd,rfl,od,hbB⟩;obtain ⟨d3,f3,hvd⟩:=az od.rd;subst hvd;have zb:=hbB.size;have xob:Box wb w1.heap.size 101 _:=XO6.out.below hbB (by omega);obtain ⟨x0,x1,x2,x3⟩:=xob.cells4;have fz:=xob.frozen 3;have XOB:=aa xob;have OD:=aa od;have HBB:=aa hbB;clear xob od hbB q0 q1 q2 q3;have bs9:=But.setCell (lo:=w1.heap.size) (hi:=w1.heap.size+1) (g:=w1.heap.size) (j:=3) (w:=wb) (Nat.le_refl _) (Nat.lt_succ_self _) (.slice d3 (cO bs n).length f3);have zt:=bs9.size;have MY:=aa ((MZ.out.below HBB.out).but bs9 (fun b hb=>by have:=RZ.out b hb;omega));have YZ:=aa (XOB.out.set 3 (.slice d3 (cO bs n).length f3));have D7:=aa (OD.out.but bs9 (.inr (by omega)));have S7:=aa ((S6.out.below HBB.out).but bs9 (.inl (by omega)));have XR7:=aa ((XR6.out.below HBB.out (by omega)).kept (bs9.block _ (by omega) (by omega)));have B7:=aa (Below.andBut (Below.andThen B6.out HBB.out) bs9 (by omega));have RY:Hid (∀b∈fpA,m2<=b/\b<w6.heap.size):=fun b hb=>by have:=RZ.out b hb;omega
 have z7:wb.heap.size<=(wb.setCell ⟨w1.heap.size,3,none⟩ (.slice d3 (cO bs n).length f3)).heap.size:=zt;clear bs9 zt XOB OD HBB MZ RZ B6 XM6 XR6 S6 D6 XO6;obtain ⟨t0,t1,t2,t3⟩:=Box.cells4 (v0:=.slice b0 n0 e0) (v1:=.slice (some ⟨g,0,none⟩) (n1+1) cap) (v2:=.bool false) (v3:=.slice d3 (cO bs n).length f3) YZ.out;obtain ⟨p0,p1,p2,p3⟩:=XR7.out.cells4;have fr:=XR7.out.frozen;go_wp2
 generalize (wb.setCell ⟨w1.heap.size,3,none⟩ (.slice d3 (cO bs n).length f3))=w7 at B7 S7 D7 XR7 MY RY YZ z7 p0 p1 p2 p3 fr t0 t1 t2 t3 ⊢;have hbt:But (w.heap.size+1) (w.heap.size+1+1) w7 ((((w7.setCell ⟨w.heap.size+1,0,none⟩ (.slice b0 n0 e0)).setCell ⟨w.heap.size+1,1,none⟩ (.slice (some ⟨g,0,none⟩) (n1+1) cap)).setCell ⟨w.heap.size+1,2,none⟩ (.bool false)).setCell ⟨w.heap.size+1,3,none⟩ (.slice d3 (cO bs n).length f3)):=
  (((But.setCell (by omega) (by omega) _).trans (But.setCell (by omega) (by omega) _)).trans (But.setCell (by omega) (by omega) _)).trans (But.setCell (by omega) (by omega) _)
 have z99:=hbt.size;refine bodyPost_ret (v:=.tuple #[.agg #[.slice b0 n0 e0,.slice (some ⟨g,0,none⟩) (n1+1) cap,.bool false,.slice d3 (cO bs n).length f3],.bool true]) (by simp [results,Tryz.results230,go_sem,p0,p1,p2,p3]) rfl ?_
 have FIN:Hid ((bR 171).Own ((((w7.setCell ⟨w.heap.size+1,0,none⟩ (.slice b0 n0 e0)).setCell ⟨w.heap.size+1,1,none⟩ (.slice (some ⟨g,0,none⟩) (n1+1) cap)).setCell ⟨w.heap.size+1,2,none⟩ (.bool false)).setCell ⟨w.heap.size+1,3,none⟩ (.slice d3 (cO bs n).length f3)) w.heap.size ((((w7.setCell ⟨w.heap.size+1,0,none⟩ (.slice b0 n0 e0)).setCell ⟨w.heap.size+1,1,none⟩ (.slice (some ⟨g,0,none⟩) (n1+1) cap)).setCell ⟨w.heap.size+1,2,none⟩ (.bool false)).setCell ⟨w.heap.size+1,3,none⟩ (.slice d3 (cO bs n).length f3)).heap.size [.slice b0 n0 e0,.slice (some ⟨g,0,none⟩) (n1+1) cap,.bool false,.slice d3 (cO bs n).length f3] (ss,cs++[(n,sw)],false,cO bs n)):=ch (S7.out.but hbt (by omega)) ((MY.out.own (lo:=m2) (hi:=w6.heap.size) (fun b hb=>RY.out b hb)).but hbt (by omega)) (D7.out.but hbt (by omega)) (by omega) (by omega) (by omega) (by omega) (by omega) (by omega);have FB:=aa (Below.andBut B7.out hbt (by omega));exact ⟨_,_,_,by rw [HK.out.1],by rw [HK.out.2.1,HK.out.2.2];exact FIN.out,FB.out⟩
end Go.Proofs.YtejeekndbnpmoaaGreat
