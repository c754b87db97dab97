/-
 The specification's SpoilAt walked. Condition: the array weighs at most 2097152.
-/
import Derived.Test.YtejokiafgbjdaaaGreatRowFailsBentSq39
import Derived.Test.YtejokiafgbjdaaaGreatRowFailsBentSq18
import Derived.Test.YtejokiafgbjdaaaGreatRowFailsBentSq22
import Derived.Test.YtejokiafgbjdaaaGreatRowFailsBentSq3

set_option maxRecDepth 100000
set_option maxHeartbeats 8000000
set_option linter.unusedSimpArgs false

namespace Go.Proofs.YtejokiafgbjdaaaGreat
open Go.RowKit

theorem kZ (w:World) (E F G:TypeId) (x:al) (am ad:Option Addr) (nm cm nd cd:Nat) (ms:List ai) (ds:List (Int×List Int)) (m s:Int) (h0:(bk E F).Rd w [.slice am nm cm] ms) (h1:(aU G).Rd w [.slice ad nd cd] ds) (hw:aM ms ds<=2097152):
 Calls Tryz.prog 27 #[.agg #[.int .i64 x.id,.int .i64 x.n,.int .i64 x.s,.slice am nm cm,.int .i64 x.lost,.int .i64 x.uG,.int .i64 x.seq,.int .i64 x.tail,.int .i64 x.gen,.slice ad nd cd,.int .i64 x.uI,.bool x.down,.bool x.uH],.int .i64 m,.int .i64 s] w fun e w'=>iC w w' e (ey x ms ds m s) ds:=by
 obtain ⟨rfl,_⟩:=ae h0;obtain ⟨rfl,_⟩:=ae h1;have hwm:aK ms<=2097152:=by unfold aM at hw;omega
 have hnm:ms.length<=2097152:=by unfold aK at hwm;omega
 have hA:=(ah w (.cells #[.int .i64 x.id,.int .i64 x.n,.int .i64 x.s,.slice am ms.length cm,.int .i64 x.lost,.int .i64 x.uG,.int .i64 x.seq,.int .i64 x.tail,.int .i64 x.gen,.slice ad ds.length cd,.int .i64 x.uI,.bool x.down,.bool x.uH] 29)).alloc (by simp) (.cells #[.int .i64 0,.int .i64 0,.int .i64 0,.slice none 0 0,.int .i64 0,.int .i64 0,.int .i64 0,.int .i64 0,.int .i64 0,.slice none 0 0,.int .i64 0,.bool false,.bool false] 29);have X0:Box ((w.alloc (.cells #[.int .i64 x.id,.int .i64 x.n,.int .i64 x.s,.slice am ms.length cm,.int .i64 x.lost,.int .i64 x.uG,.int .i64 x.seq,.int .i64 x.tail,.int .i64 x.gen,.slice ad ds.length cd,.int .i64 x.uI,.bool x.down,.bool x.uH] 29)).alloc (.cells #[.int .i64 0,.int .i64 0,.int .i64 0,.slice none 0 0,.int .i64 0,.int .i64 0,.int .i64 0,.int .i64 0,.int .i64 0,.slice none 0 0,.int .i64 0,.bool false,.bool false] 29)) w.heap.size 29 #[.int .i64 x.id,.int .i64 x.n,.int .i64 x.s,.slice am ms.length cm,.int .i64 x.lost,.int .i64 x.uG,.int .i64 x.seq,.int .i64 x.tail,.int .i64 x.gen,.slice ad ds.length cd,.int .i64 x.uI,.bool x.down,.bool x.uH]:=(Box.new w _ _).alloc _;have R0:=Box.new (w.alloc (.cells #[.int .i64 x.id,.int .i64 x.n,.int .i64 x.s,.slice am ms.length cm,.int .i64 x.lost,.int .i64 x.uG,.int .i64 x.seq,.int .i64 x.tail,.int .i64 x.gen,.slice ad ds.length cd,.int .i64 x.uI,.bool x.down,.bool x.uH] 29)) 29 #[.int .i64 0,.int .i64 0,.int .i64 0,.slice none 0 0,.int .i64 0,.int .i64 0,.int .i64 0,.int .i64 0,.int .i64 0,.slice none 0 0,.int .i64 0,.bool false,.bool false];rw [World.size_alloc] at R0;have zX:=X0.lt;have zR:=R0.lt;have r0:=h0.below hA;have r1:=h1.below hA;obtain ⟨k0,k1,k2,k3,k4,k5,k6,k7,k8,k9,k10,k11,k12⟩:=X0.cells13;go_enter Tryz.func27,Tryz.ntmps27
 go_wp2_with fail
 generalize (w.alloc (.cells #[.int .i64 x.id,.int .i64 x.n,.int .i64 x.s,.slice am ms.length cm,.int .i64 x.lost,.int .i64 x.uG,.int .i64 x.seq,.int .i64 x.tail,.int .i64 x.gen,.slice ad ds.length cd,.int .i64 x.uI,.bool x.down,.bool x.uH] 29)).alloc (.cells #[.int .i64 0,.int .i64 0,.int .i64 0,.slice none 0 0,.int .i64 0,.int .i64 0,.int .i64 0,.int .i64 0,.int .i64 0,.slice none 0 0,.int .i64 0,.bool false,.bool false] 29)=W at hA X0 R0 zX zR r0 r1 k0 k1 k2 k3 k4 k5 k6 k7 k8 k9 k10 k11 k12 ⊢;refine (mu _ E F G x _ _ _ _ _ _ ms ds r0 r1 hw).mono ?_
 rintro e w1 ⟨bm,cm1,bd,cd1,mx,rfl,om,od,zm,zm2,b1⟩;have bn:=ah w1 (.cells #[.int .i64 x.id,.int .i64 x.n,.int .i64 x.s,.slice bm ms.length cm1,.int .i64 x.lost,.int .i64 x.uG,.int .i64 x.seq,.int .i64 x.tail,.int .i64 x.gen,.slice bd ds.length cd1,.int .i64 x.uI,.bool x.down,.bool x.uH] 29);have b12:Below W.heap.size W (w1.alloc (.cells #[.int .i64 x.id,.int .i64 x.n,.int .i64 x.s,.slice bm ms.length cm1,.int .i64 x.lost,.int .i64 x.uG,.int .i64 x.seq,.int .i64 x.tail,.int .i64 x.gen,.slice bd ds.length cd1,.int .i64 x.uI,.bool x.down,.bool x.uH] 29)):=Below.andThen b1 bn;have Y:=Box.new w1 29 #[.int .i64 x.id,.int .i64 x.n,.int .i64 x.s,.slice bm ms.length cm1,.int .i64 x.lost,.int .i64 x.uG,.int .i64 x.seq,.int .i64 x.tail,.int .i64 x.gen,.slice bd ds.length cd1,.int .i64 x.uI,.bool x.down,.bool x.uH];have zY:=Y.lt;have z1:=b1.size;obtain ⟨fm,mm,rm⟩:=(om.below bn).mine;obtain ⟨fd,md,rd⟩:=(od.below bn).mine;have A2:aD (w1.alloc (.cells #[.int .i64 x.id,.int .i64 x.n,.int .i64 x.s,.slice bm ms.length cm1,.int .i64 x.lost,.int .i64 x.uG,.int .i64 x.seq,.int .i64 x.tail,.int .i64 x.gen,.slice bd ds.length cd1,.int .i64 x.uI,.bool x.down,.bool x.uH] 29)) w1.heap.size x ms ds fm fd:=⟨bm,bd,cm1,cd1,Y,mm,md,fun b hb hb'=>by have h1:=rm b hb;have h2:=rd b hb';omega,fun hm=>by have:=rm _ hm;omega,fun hm=>by have:=rd _ hm;omega⟩;have X2:=X0.below b12 zX;have R2:=R0.below b12 zR;have p0:=r0.below b12;have p1:=r1.below b12;have B2:=Below.andThen hA b12;have rm2:∀b∈fm,W.heap.size<=b:=fun b hb=>by have:=rm b hb;omega
 have rd2:∀b∈fd,W.heap.size<=b:=fun b hb=>by have:=rd b hb;omega
 clear k0 k1 k2 k3 k4 k5 k6 k7 k8 k9 k10 k11 k12 X0 R0 r0 r1 om od b1 bn b12 Y mm rm md rd hA;obtain ⟨k0,k1,k2,k3,k4,k5,k6,k7,k8,k9,k10,k11,k12⟩:=X2.cells13;go_wp2_with fail
 generalize w1.alloc (.cells #[.int .i64 x.id,.int .i64 x.n,.int .i64 x.s,.slice bm ms.length cm1,.int .i64 x.lost,.int .i64 x.uG,.int .i64 x.seq,.int .i64 x.tail,.int .i64 x.gen,.slice bd ds.length cd1,.int .i64 x.uI,.bool x.down,.bool x.uH] 29)=w2 at A2 X2 R2 p0 p1 B2 zY k0 k1 k2 k3 k4 k5 k6 k7 k8 k9 k10 k11 k12 ⊢;obtain ⟨B,hB⟩:∃B,w1.heap.size=B:=⟨_,rfl⟩;rw [hB] at A2 zY z1 ⊢;clear hB;refine (eP _ E F G x _ _ _ _ _ _ ms ds p0 p1 hw).mono ?_
 rintro e w3 ⟨rfl,b3⟩;have A3:=A2.below b3;have X3:=X2.below b3 X2.lt;have R3:=R2.below b3 R2.lt;have B3:=Below.andThen B2 b3;have q3:=p0.below b3;have z3:=b3.size;clear k0 k1 k2 k3 k4 k5 k6 k7 k8 k9 k10 k11 k12 A2 X2 R2 p0 p1 B2 b3;obtain ⟨k0,k1,k2,k3,k4,k5,k6,k7,k8,k9,k10,k11,k12⟩:=X3.cells13;cases ha:aX x ms ds
 . have HV:Hid (ey x ms ds m s=(x,ms)):=fV (by unfold ef;rw [ha];rfl)
   obtain ⟨vm,vd,cvm,cvd,Yf,mf,df,hrf,r1f,r2f⟩:=A3;have Y0:=Yf;unfold aC at Y0;obtain ⟨t0,t1,t2,t3,t4,t5,t6,t7,t8,t9,t10,t11,t12⟩:=Y0.cells13;obtain ⟨s0,s1,s2,s3,s4,s5,s6,s7,s8,s9,s10,s11,s12⟩:=R3.cells13;have fzr:=R3.frozen;have HO:=aa (bR (y:=x) (e:=.returned (.agg (aC x _ _))) B3 R3 rfl mf df hrf rm2 rd2 (by omega) (by omega));unfold aC at HO;simp only [bM] at HO
   clear X3 R3 B3 Yf Y0 mf df;go_wp2
   refine bodyPost_ret (v:=.agg #[.int .i64 x.id,.int .i64 x.n,.int .i64 x.s,.slice vm ms.length cvm,.int .i64 x.lost,.int .i64 x.uG,.int .i64 x.seq,.int .i64 x.tail,.int .i64 x.gen,.slice vd ds.length cvd,.int .i64 x.uI,.bool x.down,.bool x.uH]) (by simp [results,Tryz.results27,go_sem,s0,s1,s2,s3,s4,s5,s6,s7,s8,s9,s10,s11,s12]) rfl ?_
   rw [HV.out];exact HO.out
 have hg:bI x.n x.s=true:=by unfold aX at ha;simp only [Bool.and_eq_true] at ha;exact ha.1
 obtain ⟨g1,g2,g3,g4⟩:=az.1 hg;have hw1:IntKind.i64.wrap ((ms.length:Int)-1)=(ms.length:Int)-1:=IntWalk.i64_in _ (by omega);have hw2:IntKind.i64.wrap (x.s-1)=x.s-1:=IntWalk.i64_in _ (by omega);go_wp2_with fail
 refine (aB _ _ _ _).mono ?_
 rintro e wq ⟨rfl,hq⟩;obtain rfl:=hq.symm;cases hm:inB m 0 ((ms.length:Int)-1)
 . have HV:Hid (ey x ms ds m s=(x,ms)):=fV (by unfold ef;rw [ha,hm];rfl)
   obtain ⟨vm,vd,cvm,cvd,Yf,mf,df,hrf,r1f,r2f⟩:=A3;have Y0:=Yf;unfold aC at Y0;obtain ⟨t0,t1,t2,t3,t4,t5,t6,t7,t8,t9,t10,t11,t12⟩:=Y0.cells13;obtain ⟨s0,s1,s2,s3,s4,s5,s6,s7,s8,s9,s10,s11,s12⟩:=R3.cells13;have fzr:=R3.frozen;have HO:=aa (bR (y:=x) (e:=.returned (.agg (aC x _ _))) B3 R3 rfl mf df hrf rm2 rd2 (by omega) (by omega));unfold aC at HO;simp only [bM] at HO
   clear X3 R3 B3 Yf Y0 mf df;go_wp2
   refine bodyPost_ret (v:=.agg #[.int .i64 x.id,.int .i64 x.n,.int .i64 x.s,.slice vm ms.length cvm,.int .i64 x.lost,.int .i64 x.uG,.int .i64 x.seq,.int .i64 x.tail,.int .i64 x.gen,.slice vd ds.length cvd,.int .i64 x.uI,.bool x.down,.bool x.uH]) (by simp [results,Tryz.results27,go_sem,s0,s1,s2,s3,s4,s5,s6,s7,s8,s9,s10,s11,s12]) rfl ?_
   rw [HV.out];exact HO.out
 go_wp2_with fail
 refine (aB _ _ _ _).mono ?_
 rintro e wq ⟨rfl,hq⟩;obtain rfl:=hq.symm;cases hs:inB s 0 (x.s-1)
 . have HV:Hid (ey x ms ds m s=(x,ms)):=fV (by unfold ef;rw [ha,hm,hs];rfl)
   obtain ⟨vm,vd,cvm,cvd,Yf,mf,df,hrf,r1f,r2f⟩:=A3;have Y0:=Yf;unfold aC at Y0;obtain ⟨t0,t1,t2,t3,t4,t5,t6,t7,t8,t9,t10,t11,t12⟩:=Y0.cells13;obtain ⟨s0,s1,s2,s3,s4,s5,s6,s7,s8,s9,s10,s11,s12⟩:=R3.cells13;have fzr:=R3.frozen;have HO:=aa (bR (y:=x) (e:=.returned (.agg (aC x _ _))) B3 R3 rfl mf df hrf rm2 rd2 (by omega) (by omega));unfold aC at HO;simp only [bM] at HO
   clear X3 R3 B3 Yf Y0 mf df;go_wp2
   refine bodyPost_ret (v:=.agg #[.int .i64 x.id,.int .i64 x.n,.int .i64 x.s,.slice vm ms.length cvm,.int .i64 x.lost,.int .i64 x.uG,.int .i64 x.seq,.int .i64 x.tail,.int .i64 x.gen,.slice vd ds.length cvd,.int .i64 x.uI,.bool x.down,.bool x.uH]) (by simp [results,Tryz.results27,go_sem,s0,s1,s2,s3,s4,s5,s6,s7,s8,s9,s10,s11,s12]) rfl ?_
   rw [HV.out];exact HO.out
 have HB:Hid (ef x ms ds m s=true):=by unfold Hid ef;rw [ha,hm,hs];rfl
 have k3:w3.cell? ⟨w.heap.size,3,none⟩=some (.slice am ms.length cm):=X3.cells13.2.2.2.1;obtain ⟨m1,m2⟩:=aG.1 hm;obtain ⟨j,rfl⟩:=Int.eq_ofNat_of_zero_le m1;have hj:j<ms.length:=by omega
 obtain ⟨bmf,bdf,cmf,cdf,Y,mmf,ddf,hrf,r1f,r2f⟩:=A3;obtain ⟨gm,hbm⟩:=bG mmf (by omega);subst hbm;obtain ⟨d,hdj⟩:∃d,ms[j]?=some d:=⟨_,List.getElem?_eq_getElem hj⟩;have HV0:=aa (mI HB.out hdj);have hgl:=mmf.lt gm (kd mmf);rcases cF rfl q3 with h0'|⟨b,off,rfl,hbl,hcs⟩
 . omega
 obtain ⟨v0,v1,v2,v3,q0,q1,q2,q3',hrv⟩:=hcs j d hdj;obtain ⟨a0,c0,a1,c1,a3,c3,ss,cs,f,bs,rfl,rfl,rfl,rfl,rfl,p0,p1,p3⟩:=dP hrv;have hwd:=Nat.le_trans (cD hdj) hwm;have Y0:=Y;unfold aC at Y0;have zB:=Y.lt;have hS:w3.drew.cell? ⟨B,3,none⟩=some (.slice (some ⟨gm,0,none⟩) ms.length cmf)/\w3.drew.cell? ⟨w.heap.size,3,none⟩=some (.slice (some ⟨b,off,none⟩) ms.length cm)/\w3.drew.cell? ⟨b,off+j*4,none⟩=some (.slice a0 ss.length c0)/\w3.drew.cell? ⟨b,off+j*4+1,none⟩=some (.slice a1 cs.length c1)/\w3.drew.cell? ⟨b,off+j*4+2,none⟩=some (.bool f)/\w3.drew.cell? ⟨b,off+j*4+3,none⟩=some (.slice a3 bs.length c3):=⟨Y0.cells13.2.2.2.1,k3,q0,q1,q2,q3'⟩;have i1:(0:Int)<=(j:Int):=by omega
 have i3:(j:Int)<(ms.length:Int):=by omega
 have YH:=aa Y;have MH:=aa mmf;have DH:=aa ddf;have P0:=aa p0;have P1:=aa p1;have P3:=aa p3;clear Y Y0 mmf ddf p0 p1 p3 hm hs ha;go_wp2_with fail
 refine af.start (S:=fun w'=>w'.cell? ⟨B,3,none⟩=some (.slice (some ⟨gm,0,none⟩) ms.length cmf)/\w'.cell? ⟨w.heap.size,3,none⟩=some (.slice (some ⟨b,off,none⟩) ms.length cm)/\w'.cell? ⟨b,off+j*4,none⟩=some (.slice a0 ss.length c0)/\w'.cell? ⟨b,off+j*4+1,none⟩=some (.slice a1 cs.length c1)/\w'.cell? ⟨b,off+j*4+2,none⟩=some (.bool f)/\w'.cell? ⟨b,off+j*4+3,none⟩=some (.slice a3 bs.length c3)) (k:=12) (by kernel_rfl) ?_
 refine af.t 0 hS ?_
 refine af.t 1 hS ?_
 refine af.t 2 hS ?_
 refine af.t 3 hS ?_
 refine af.t 4 hS ?_
 refine af.t 5 hS ?_
 refine af.t 6 hS ?_
 refine af.t 7 hS ?_
 refine af.t 8 hS ?_
 refine af.one (i:=9) (by kernel_rfl) rfl (fun K hK=>?_)
 go_simp
 refine (aV _ s).mono ?_
 rintro e wq ⟨rfl,hq⟩;subst hq;go_wp2_with fail
 refine hK.out _ _ (fun _=>hS) ?_
 clear hK K;refine af.one (i:=10) (by kernel_rfl) rfl (fun K hK=>?_)
 go_simp
 refine (eJ _ E _ _ _ _ _ _ _ _ _ ss cs f bs (bp s) P0.out.drew P1.out.drew P3.out.drew hwd).mono ?_
 rintro e w6 ⟨u0,u1,u3,rfl,o6,b6'⟩;have b6:Below w3.heap.size w3 w6:=(Below.refl w3.heap.size w3).drew.trans b6';have o6b:(bC 142).Own w6 w3.heap.size w6.heap.size [u0,u1,.bool f,u3] (im (ss,cs,f,bs) s):=o6;obtain ⟨d0,l0,f0,d1,l1,f1,d3,l3,f3,hv0,hv1,hv3⟩:=bE o6b;subst hv0 hv1 hv3;obtain ⟨fpx,mx6,rx⟩:=o6b.mine;obtain ⟨cOld,fz,hgm,fm9,hA9,hMv9⟩:=di (m:=j) YH.out MH.out DH.out hrf r1f r2f b6 hj mx6 (fun b hb=>(rx b hb).1);obtain ⟨y0,t0⟩:=cOld 0 (by omega);obtain ⟨y1,t1⟩:=cOld 1 (by omega);obtain ⟨y2,t2⟩:=cOld 2 (by omega);obtain ⟨y3,t3⟩:=cOld 3 (by omega);rw [Nat.add_zero] at t0;have HA:=aa hA9;have HMV:=aa hMv9;have hS2:w6.cell? ⟨B,3,none⟩=some (.slice (some ⟨gm,0,none⟩) ms.length cmf)/\w6.cell? ⟨w.heap.size,3,none⟩=some (.slice (some ⟨b,off,none⟩) ms.length cm)/\w6.cell? ⟨b,off+j*4,none⟩=some (.slice a0 ss.length c0)/\w6.cell? ⟨b,off+j*4+1,none⟩=some (.slice a1 cs.length c1)/\w6.cell? ⟨b,off+j*4+2,none⟩=some (.bool f)/\w6.cell? ⟨b,off+j*4+3,none⟩=some (.slice a3 bs.length c3):=⟨(b6.cell (p:=⟨B,3,none⟩) zB).trans hS.1,(b6.cell (p:=⟨w.heap.size,3,none⟩) X3.lt).trans hS.2.1,(b6.cell (p:=⟨b,off+j*4,none⟩) hbl).trans hS.2.2.1,(b6.cell (p:=⟨b,off+j*4+1,none⟩) hbl).trans hS.2.2.2.1,(b6.cell (p:=⟨b,off+j*4+2,none⟩) hbl).trans hS.2.2.2.2.1,(b6.cell (p:=⟨b,off+j*4+3,none⟩) hbl).trans hS.2.2.2.2.2⟩;have gB:¬gm=B:=fun e=>r1f (e▸hgm);unfold ez at HA HMV;clear o6 o6b b6 b6' mx6 rx cOld hA9 hMv9 YH MH DH P0 P1 P3;go_wp2_with fail
 refine hK.out _ _ (fun _=>hS2) ?_
 clear hK K;refine af.t 11 hS2 ?_
 refine af.one (i:=12) (by kernel_rfl) rfl (fun K hK=>?_)
 go_simp
 refine hK.out _ _ (fun h=>absurd rfl h) ?_
 clear hK K;refine af.done (by kernel_rfl) ?_ _
 clear hS hS2 t0 t1 t2 t3 fz;generalize (((w6.setCell ⟨gm,j*4,none⟩ (.slice d0 l0 f0)).setCell ⟨gm,j*4+1,none⟩ (.slice d1 l1 f1)).setCell ⟨gm,j*4+2,none⟩ (.bool f)).setCell ⟨gm,j*4+3,none⟩ (.slice d3 l3 f3)=w7 at HA HMV ⊢;have HV:=HV0;generalize ms.set j (im (ss,cs,f,bs) s)=ns at HA HV;clear HV0;have A7:=HA.out;have rm7:∀b∈fm9,W.heap.size<=b:=fun b hb=>by rcases HMV.out.2 b hb with h|h;exact rm2 b h;omega
 have R7:=HMV.out.box R3 (by omega) (fun hm=>by have:=rm2 _ hm;omega);have B7:=B3.trans (HMV.out.belowN (N:=w.heap.size) (by omega) (fun b hb=>by have:=rm2 b hb;omega) (by omega));have z7:=HMV.out.size;clear HA HMV;obtain ⟨vm,vd,cvm,cvd,Yf,mf,df,hrf,r1f,r2f⟩:=A7;have Y0:=Yf;unfold aC at Y0;obtain ⟨t0,t1,t2,t3,t4,t5,t6,t7,t8,t9,t10,t11,t12⟩:=Y0.cells13;obtain ⟨s0,s1,s2,s3,s4,s5,s6,s7,s8,s9,s10,s11,s12⟩:=R7.cells13;have fzr:=R7.frozen;have HO:=aa (bR (y:=x) (e:=.returned (.agg (aC x _ _))) B7 R7 rfl mf df hrf rm7 rd2 (by omega) (by omega));unfold aC at HO;simp only [bM] at HO
 clear R7 B7 Yf Y0 mf df;go_wp2
 refine bodyPost_ret (v:=.agg #[.int .i64 x.id,.int .i64 x.n,.int .i64 x.s,.slice vm ns.length cvm,.int .i64 x.lost,.int .i64 x.uG,.int .i64 x.seq,.int .i64 x.tail,.int .i64 x.gen,.slice vd ds.length cvd,.int .i64 x.uI,.bool x.down,.bool x.uH]) (by simp [results,Tryz.results27,go_sem,s0,s1,s2,s3,s4,s5,s6,s7,s8,s9,s10,s11,s12]) rfl ?_
 rw [HV.out];exact HO.out
end Go.Proofs.YtejokiafgbjdaaaGreat
