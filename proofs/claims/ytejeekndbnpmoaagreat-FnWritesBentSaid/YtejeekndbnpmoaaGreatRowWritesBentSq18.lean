/-
 The walks of the specification's draws of numbers and of what is put, for the law of sectors. Condition: at most 2097152 bytes to draw from.
-/
import Derived.Test.YtejeekndbnpmoaaGreatRowWritesBentSq3
import Derived.Test.YtejeekndbnpmoaaGreatRowWritesBentSq2
import Derived.Test.YtejeekndbnpmoaaGreatRowWritesBentSq6
import Derived.Test.YtejeekndbnpmoaaGreatRowWritesBentSq13
import Derived.Test.YtejeekndbnpmoaaGreatRowWritesBentSq16
import Derived.Test.YtejeekndbnpmoaaGreatRowWritesBentSq17
import Derived.Deep.LoopGhost
import Derived.Test.YtejeekndbnpmoaaGreatRowWritesBentSq1

set_option maxRecDepth 100000
set_option maxHeartbeats 8000000
set_option linter.unusedSimpArgs false

namespace Go.Proofs.YtejeekndbnpmoaaGreat
open Go.RowKit

theorem iA (w:World) (E F G:TypeId) (x:al) (am ad:Option Addr) (nm cm nd cd:Nat) (ms:List ai) (ds:List (Int×List Int)) (h0:(bt E F).Rd w [.slice am nm cm] ms) (h1:(aU G).Rd w [.slice ad nd cd] ds) (hw:aM ms ds<=2097152):
 Calls Tryz.prog 94 #[.agg #[.int .i64 x.id,.int .i64 x.n,.int .i64 x.s,.slice am nm cm,.int .i64 x.lost,.int .i64 x.vG,.int .i64 x.seq,.int .i64 x.tail,.int .i64 x.gen,.slice ad nd cd,.int .i64 x.vI,.bool x.down,.bool x.vH]] w fun e w'=>∃bm cm' bd cd' m,e=.returned (.agg #[.int .i64 x.id,.int .i64 x.n,.int .i64 x.s,.slice bm nm cm',.int .i64 x.lost,.int .i64 x.vG,.int .i64 x.seq,.int .i64 x.tail,.int .i64 x.gen,.slice bd nd cd',.int .i64 x.vI,.bool x.down,.bool x.vH])/\(bt 171 101).Own w' w.heap.size m [.slice bm nm cm'] ms/\(aU 90).Own w' m w'.heap.size [.slice bd nd cd'] ds/\w.heap.size<=m/\m<=w'.heap.size/\Below w.heap.size w w':=by
 have hwm:aV ms<=2097152:=by unfold aM at hw;omega
 have hwd:bh ds<=2097152:=by unfold aM at hw;omega
 obtain ⟨hl0,_,hm0⟩:=af h0;obtain ⟨hl1,_,hm1⟩:=af h1;have hn0:nm<=2097152:=by unfold aV at hwm;omega
 have hn1:nd<=2097152:=by unfold bh at hwd;omega
 obtain ⟨i3,hi3,hx0,hx1,hx2⟩:=info_parts Tryz.info3;obtain ⟨i1,hi1,hy0,hy1,hy2⟩:=info_parts Tryz.infoEnt;obtain ⟨i4,hi4,hz0,hz1,hz2⟩:=info_parts Tryz.infoMem;have zz:∀u:World,∀ob:Obj,(u.alloc ob).heap.size=u.heap.size+1:=fun u ob=>by simp
 have xm:Box ((((w.alloc (.cells #[.int .i64 x.id,.int .i64 x.n,.int .i64 x.s,.slice am nm cm,.int .i64 x.lost,.int .i64 x.vG,.int .i64 x.seq,.int .i64 x.tail,.int .i64 x.gen,.slice ad nd cd,.int .i64 x.vI,.bool x.down,.bool x.vH] 29)).alloc (.cells #[.int .i64 0,.int .i64 0,.int .i64 0,.slice none 0 0,.int .i64 0,.int .i64 0,.int .i64 0,.int .i64 0,.int .i64 0,.slice none 0 0,.int .i64 0,.bool false,.bool false] 29)).alloc (.cells #[.int .i64 x.id,.int .i64 x.n,.int .i64 x.s,.slice (some ⟨w.heap.size+1+1+1,0,none⟩) 0 0,.int .i64 x.lost,.int .i64 x.vG,.int .i64 x.seq,.int .i64 x.tail,.int .i64 x.gen,.slice ad nd cd,.int .i64 x.vI,.bool x.down,.bool x.vH] 29)).alloc (.cells #[] 101)) (w.heap.size) 29 #[.int .i64 x.id,.int .i64 x.n,.int .i64 x.s,.slice am nm cm,.int .i64 x.lost,.int .i64 x.vG,.int .i64 x.seq,.int .i64 x.tail,.int .i64 x.gen,.slice ad nd cd,.int .i64 x.vI,.bool x.down,.bool x.vH]:=(((Box.new w _ _).alloc _).alloc _).alloc _;have xr0:=Box.new (w.alloc (.cells #[.int .i64 x.id,.int .i64 x.n,.int .i64 x.s,.slice am nm cm,.int .i64 x.lost,.int .i64 x.vG,.int .i64 x.seq,.int .i64 x.tail,.int .i64 x.gen,.slice ad nd cd,.int .i64 x.vI,.bool x.down,.bool x.vH] 29)) 29 #[.int .i64 0,.int .i64 0,.int .i64 0,.slice none 0 0,.int .i64 0,.int .i64 0,.int .i64 0,.int .i64 0,.int .i64 0,.slice none 0 0,.int .i64 0,.bool false,.bool false];rw [zz] at xr0;have xr:Box ((((w.alloc (.cells #[.int .i64 x.id,.int .i64 x.n,.int .i64 x.s,.slice am nm cm,.int .i64 x.lost,.int .i64 x.vG,.int .i64 x.seq,.int .i64 x.tail,.int .i64 x.gen,.slice ad nd cd,.int .i64 x.vI,.bool x.down,.bool x.vH] 29)).alloc (.cells #[.int .i64 0,.int .i64 0,.int .i64 0,.slice none 0 0,.int .i64 0,.int .i64 0,.int .i64 0,.int .i64 0,.int .i64 0,.slice none 0 0,.int .i64 0,.bool false,.bool false] 29)).alloc (.cells #[.int .i64 x.id,.int .i64 x.n,.int .i64 x.s,.slice (some ⟨w.heap.size+1+1+1,0,none⟩) 0 0,.int .i64 x.lost,.int .i64 x.vG,.int .i64 x.seq,.int .i64 x.tail,.int .i64 x.gen,.slice ad nd cd,.int .i64 x.vI,.bool x.down,.bool x.vH] 29)).alloc (.cells #[] 101)) (w.heap.size+1) 29 #[.int .i64 0,.int .i64 0,.int .i64 0,.slice none 0 0,.int .i64 0,.int .i64 0,.int .i64 0,.int .i64 0,.int .i64 0,.slice none 0 0,.int .i64 0,.bool false,.bool false]:=(xr0.alloc _).alloc _;have xo0:=Box.new ((w.alloc (.cells #[.int .i64 x.id,.int .i64 x.n,.int .i64 x.s,.slice am nm cm,.int .i64 x.lost,.int .i64 x.vG,.int .i64 x.seq,.int .i64 x.tail,.int .i64 x.gen,.slice ad nd cd,.int .i64 x.vI,.bool x.down,.bool x.vH] 29)).alloc (.cells #[.int .i64 0,.int .i64 0,.int .i64 0,.slice none 0 0,.int .i64 0,.int .i64 0,.int .i64 0,.int .i64 0,.int .i64 0,.slice none 0 0,.int .i64 0,.bool false,.bool false] 29)) 29 #[.int .i64 x.id,.int .i64 x.n,.int .i64 x.s,.slice (some ⟨w.heap.size+1+1+1,0,none⟩) 0 0,.int .i64 x.lost,.int .i64 x.vG,.int .i64 x.seq,.int .i64 x.tail,.int .i64 x.gen,.slice ad nd cd,.int .i64 x.vI,.bool x.down,.bool x.vH];rw [zz,zz] at xo0;have xo:Box ((((w.alloc (.cells #[.int .i64 x.id,.int .i64 x.n,.int .i64 x.s,.slice am nm cm,.int .i64 x.lost,.int .i64 x.vG,.int .i64 x.seq,.int .i64 x.tail,.int .i64 x.gen,.slice ad nd cd,.int .i64 x.vI,.bool x.down,.bool x.vH] 29)).alloc (.cells #[.int .i64 0,.int .i64 0,.int .i64 0,.slice none 0 0,.int .i64 0,.int .i64 0,.int .i64 0,.int .i64 0,.int .i64 0,.slice none 0 0,.int .i64 0,.bool false,.bool false] 29)).alloc (.cells #[.int .i64 x.id,.int .i64 x.n,.int .i64 x.s,.slice (some ⟨w.heap.size+1+1+1,0,none⟩) 0 0,.int .i64 x.lost,.int .i64 x.vG,.int .i64 x.seq,.int .i64 x.tail,.int .i64 x.gen,.slice ad nd cd,.int .i64 x.vI,.bool x.down,.bool x.vH] 29)).alloc (.cells #[] 101)) (w.heap.size+1+1) 29 #[.int .i64 x.id,.int .i64 x.n,.int .i64 x.s,.slice (some ⟨w.heap.size+1+1+1,0,none⟩) 0 0,.int .i64 x.lost,.int .i64 x.vG,.int .i64 x.seq,.int .i64 x.tail,.int .i64 x.gen,.slice ad nd cd,.int .i64 x.vI,.bool x.down,.bool x.vH]:=xo0.alloc _;have ml:=dJ (t:=bR 171) (E:=101) (((w.alloc (.cells #[.int .i64 x.id,.int .i64 x.n,.int .i64 x.s,.slice am nm cm,.int .i64 x.lost,.int .i64 x.vG,.int .i64 x.seq,.int .i64 x.tail,.int .i64 x.gen,.slice ad nd cd,.int .i64 x.vI,.bool x.down,.bool x.vH] 29)).alloc (.cells #[.int .i64 0,.int .i64 0,.int .i64 0,.slice none 0 0,.int .i64 0,.int .i64 0,.int .i64 0,.int .i64 0,.int .i64 0,.slice none 0 0,.int .i64 0,.bool false,.bool false] 29)).alloc (.cells #[.int .i64 x.id,.int .i64 x.n,.int .i64 x.s,.slice (some ⟨w.heap.size+1+1+1,0,none⟩) 0 0,.int .i64 x.lost,.int .i64 x.vG,.int .i64 x.seq,.int .i64 x.tail,.int .i64 x.gen,.slice ad nd cd,.int .i64 x.vI,.bool x.down,.bool x.vH] 29));rw [zz,zz,zz] at ml;have hB:Below (w.heap.size) w ((((w.alloc (.cells #[.int .i64 x.id,.int .i64 x.n,.int .i64 x.s,.slice am nm cm,.int .i64 x.lost,.int .i64 x.vG,.int .i64 x.seq,.int .i64 x.tail,.int .i64 x.gen,.slice ad nd cd,.int .i64 x.vI,.bool x.down,.bool x.vH] 29)).alloc (.cells #[.int .i64 0,.int .i64 0,.int .i64 0,.slice none 0 0,.int .i64 0,.int .i64 0,.int .i64 0,.int .i64 0,.int .i64 0,.slice none 0 0,.int .i64 0,.bool false,.bool false] 29)).alloc (.cells #[.int .i64 x.id,.int .i64 x.n,.int .i64 x.s,.slice (some ⟨w.heap.size+1+1+1,0,none⟩) 0 0,.int .i64 x.lost,.int .i64 x.vG,.int .i64 x.seq,.int .i64 x.tail,.int .i64 x.gen,.slice ad nd cd,.int .i64 x.vI,.bool x.down,.bool x.vH] 29)).alloc (.cells #[] 101)):=((((Below.refl _ _).alloc (Nat.le_refl _) _).alloc (by simp) _).alloc (by simp;omega) _).alloc (by simp;omega) _;have hz:w.heap.size+1+1+1<((((w.alloc (.cells #[.int .i64 x.id,.int .i64 x.n,.int .i64 x.s,.slice am nm cm,.int .i64 x.lost,.int .i64 x.vG,.int .i64 x.seq,.int .i64 x.tail,.int .i64 x.gen,.slice ad nd cd,.int .i64 x.vI,.bool x.down,.bool x.vH] 29)).alloc (.cells #[.int .i64 0,.int .i64 0,.int .i64 0,.slice none 0 0,.int .i64 0,.int .i64 0,.int .i64 0,.int .i64 0,.int .i64 0,.slice none 0 0,.int .i64 0,.bool false,.bool false] 29)).alloc (.cells #[.int .i64 x.id,.int .i64 x.n,.int .i64 x.s,.slice (some ⟨w.heap.size+1+1+1,0,none⟩) 0 0,.int .i64 x.lost,.int .i64 x.vG,.int .i64 x.seq,.int .i64 x.tail,.int .i64 x.gen,.slice ad nd cd,.int .i64 x.vI,.bool x.down,.bool x.vH] 29)).alloc (.cells #[] 101)).heap.size:=by simp
 clear xr0 xo0 zz;go_enter Tryz.func94,Tryz.ntmps94
 go_wp2
 generalize (((w.alloc (.cells #[.int .i64 x.id,.int .i64 x.n,.int .i64 x.s,.slice am nm cm,.int .i64 x.lost,.int .i64 x.vG,.int .i64 x.seq,.int .i64 x.tail,.int .i64 x.gen,.slice ad nd cd,.int .i64 x.vI,.bool x.down,.bool x.vH] 29)).alloc (.cells #[.int .i64 0,.int .i64 0,.int .i64 0,.slice none 0 0,.int .i64 0,.int .i64 0,.int .i64 0,.int .i64 0,.int .i64 0,.slice none 0 0,.int .i64 0,.bool false,.bool false] 29)).alloc (.cells #[.int .i64 x.id,.int .i64 x.n,.int .i64 x.s,.slice (some ⟨w.heap.size+1+1+1,0,none⟩) 0 0,.int .i64 x.lost,.int .i64 x.vG,.int .i64 x.seq,.int .i64 x.tail,.int .i64 x.gen,.slice ad nd cd,.int .i64 x.vI,.bool x.down,.bool x.vH] 29)).alloc (.cells #[] 101)=W2 at xm xr xo ml hB hz ⊢;obtain ⟨LB,hLB⟩:∃LB,w.heap.size+1+1+1=LB:=⟨_,rfl⟩;rw [hLB] at xo ml hz ⊢;have q3:w.heap.size+1+1+1<=LB/\LB<=w.heap.size+1+1+1:=by omega
 clear hLB;obtain ⟨BO,hBO⟩:∃BO,w.heap.size+1+1=BO:=⟨_,rfl⟩;rw [hBO] at xo ⊢;have q2:w.heap.size+1+1<=BO/\BO<=w.heap.size+1+1:=by omega
 clear hBO;obtain ⟨BR,hBR⟩:∃BR,w.heap.size+1=BR:=⟨_,rfl⟩;rw [hBR] at xr ⊢;have q1:w.heap.size+1<=BR/\BR<=w.heap.size+1:=by omega
 clear hBR;have XM2:=aa xm;have XR2:=aa xr;have XO2:=aa xo;have ML2:=aa ml;have HB2:=aa hB;clear xm xr xo ml hB;go_loopw [4] (fun i wr=>∃(j:Nat) (v0:Value) (fp0:List Nat),j<=nm/\i=.int .i64 j/\Fr LB BO W2 wr/\Box wr BO 29 #[.int .i64 x.id,.int .i64 x.n,.int .i64 x.s,v0,.int .i64 x.lost,.int .i64 x.vG,.int .i64 x.seq,.int .i64 x.tail,.int .i64 x.gen,.slice ad nd cd,.int .i64 x.vI,.bool x.down,.bool x.vH]/\(bt 171 101).Mine wr [v0] (ms.take j) fp0/\(∀b∈fp0,LB<=b)) (fun i _=>nm-(intOf i).toNat)
 case atStart=>exact ⟨0,_,[LB],Nat.zero_le _,rfl,Fr.refl _ _ _,XO2.out,ML2.out,by simp⟩
 obtain ⟨j,v0,fp0,hj,rfl,fr,xo,hm,hfp⟩:=hrel;have hs:=fr.size;have xm:=fr.box XM2.out (by omega) (by omega);have hb:=HB2.out.trans (fr.below (M:=w.heap.size) (by omega) (by omega));have c3:wr.cell? ⟨w.heap.size,3,none⟩=some (.slice am nm cm):=xm.cell 3;by_cases hjn:j<nm
 . rcases dW rfl h0 with h0'|⟨b,off,rfl,hbl,hcs⟩
   . omega
   have hdj:ms[j]?=some (ms[j]'(by omega)):=List.getElem?_eq_getElem (by omega);have htk:ms.take (j+1)=ms.take j++[ms[j]'(by omega)]:=List.take_succ_eq_append_getElem (by omega);generalize ms[j]'(by omega)=d at hdj htk;have hin:=Nat.le_trans (eN hdj) hwm;obtain ⟨u0,u1,u2,u3,hv0,hv1,hv2,hv3,hrv⟩:=hcs j d hdj;obtain ⟨a0,c0,a1,c1,a3,c3',ss,cs,f,bs,rfl,rfl,rfl,rfl,rfl,r0,r1,r3⟩:=fR hrv;have pv0:=(hb.cell (p:=⟨b,off+j*4,none⟩) hbl).trans hv0;have pv1:=(hb.cell (p:=⟨b,off+j*4+1,none⟩) hbl).trans hv1;have pv2:=(hb.cell (p:=⟨b,off+j*4+2,none⟩) hbl).trans hv2;have pv3:=(hb.cell (p:=⟨b,off+j*4+3,none⟩) hbl).trans hv3;have R0:=aa (r0.below hb);have R1:=aa (r1.below hb);have R3:=aa (r3.below hb);have k1:(0:Int)<=(j:Int):=by omega
   have k2:(j:Int)<(nm:Int):=by omega
   have HTK:=aa htk;have XO:=aa xo;have XMR:=aa xm;have FRR:=aa fr;have HM:=aa hm;have HFP:=aa hfp;have HL:Hid ((ms.take j).length=j):=by unfold Hid;rw [List.length_take];omega
   have L1:Hid ((ms.take j).length+1<=maxLen):=by unfold Hid;rw [HL.out];unfold maxLen;omega
   have L2:Hid (((ms.take j).length+1)*80<=140737488355328):=by unfold Hid;rw [HL.out];omega
   have mk:Hid (∀w',Box w' BO 29 #[.int .i64 x.id,.int .i64 x.n,.int .i64 x.s,v0,.int .i64 x.lost,.int .i64 x.vG,.int .i64 x.seq,.int .i64 x.tail,.int .i64 x.gen,.slice ad nd cd,.int .i64 x.vI,.bool x.down,.bool x.vH]->Box w' w.heap.size 29 #[.int .i64 x.id,.int .i64 x.n,.int .i64 x.s,.slice (some ⟨b,off,none⟩) nm cm,.int .i64 x.lost,.int .i64 x.vG,.int .i64 x.seq,.int .i64 x.tail,.int .i64 x.gen,.slice ad nd cd,.int .i64 x.vI,.bool x.down,.bool x.vH]->w'.heap[b]?=wr.heap[b]?->w'.cell? ⟨BO,3,none⟩=some (v0)/\w'.cell? ⟨w.heap.size,3,none⟩=some (.slice (some ⟨b,off,none⟩) nm cm)/\w'.cell? ⟨b,off+j*4,none⟩=some (.slice a0 ss.length c0)/\w'.cell? ⟨b,off+j*4+1,none⟩=some (.slice a1 cs.length c1)/\w'.cell? ⟨b,off+j*4+2,none⟩=some (.bool f)/\w'.cell? ⟨b,off+j*4+3,none⟩=some (.slice a3 bs.length c3')):=fun w' h1 h2 h3=>⟨h1.cell 3,h2.cell 3,(World.cell?_of_block (w:=wr) h3).trans pv0,(World.cell?_of_block (w:=wr) h3).trans pv1,(World.cell?_of_block (w:=wr) h3).trans pv2,(World.cell?_of_block (w:=wr) h3).trans pv3⟩;have hS:wr.drew.cell? ⟨BO,3,none⟩=some (v0)/\wr.drew.cell? ⟨w.heap.size,3,none⟩=some (.slice (some ⟨b,off,none⟩) nm cm)/\wr.drew.cell? ⟨b,off+j*4,none⟩=some (.slice a0 ss.length c0)/\wr.drew.cell? ⟨b,off+j*4+1,none⟩=some (.slice a1 cs.length c1)/\wr.drew.cell? ⟨b,off+j*4+2,none⟩=some (.bool f)/\wr.drew.cell? ⟨b,off+j*4+3,none⟩=some (.slice a3 bs.length c3'):=mk.out wr.drew xo xm rfl;have zb:b<wr.heap.size:=by have:=hb.size;omega
   have zLB:LB<wr.heap.size:=by omega
   clear hcs hdj hv0 hv1 hv2 hv3 hrv htk xo xm hm hfp hb fr pv0 pv1 pv2 pv3 r0 r1 r3;go_wp2_with fail
   refine ah.start (S:=fun w'=>w'.cell? ⟨BO,3,none⟩=some (v0)/\w'.cell? ⟨w.heap.size,3,none⟩=some (.slice (some ⟨b,off,none⟩) nm cm)/\w'.cell? ⟨b,off+j*4,none⟩=some (.slice a0 ss.length c0)/\w'.cell? ⟨b,off+j*4+1,none⟩=some (.slice a1 cs.length c1)/\w'.cell? ⟨b,off+j*4+2,none⟩=some (.bool f)/\w'.cell? ⟨b,off+j*4+3,none⟩=some (.slice a3 bs.length c3')) (k:=11) (by kernel_rfl) ?_
   refine ah.t 0 hS ?_
   refine ah.t 1 hS ?_
   refine ah.t 2 hS ?_
   refine ah.t 3 hS ?_
   refine ah.t 4 hS ?_
   refine ah.t 5 hS ?_
   refine ah.t 6 hS ?_
   refine ah.one (i:=7) (by kernel_rfl) rfl (fun K hK=>?_)
   go_simp
   refine (en _ E _ _ _ _ _ _ _ _ _ ss cs f bs R0.out.drew R1.out.drew R3.out.drew hin).mono ?_
   rintro e wc ⟨y0,y1,y3,m1,m2,rfl,o3,o0,o1,hm12,hm01,hm22,bc⟩;have hbc':Below wr.heap.size wr wc:=(Below.refl wr.heap.size wr).drew.trans bc;have hm01':wr.heap.size<=m1:=hm01;have om:(bR 171).Own wc wr.heap.size wc.heap.size [y0,y1,.bool f,y3] (ss,cs,f,bs):=ch o0 o1 o3 (.inl (Nat.le_refl _)) (.inr (Nat.le_refl _)) (.inr hm12) ⟨by omega,by omega⟩ ⟨by omega,Nat.le_refl _⟩ ⟨Nat.le_refl _,by omega⟩;obtain ⟨e0,g0,rfl⟩:=az o0.rd;obtain ⟨e1,g1,rfl⟩:=az o1.rd;obtain ⟨e3,g3,rfl⟩:=az o3.rd;obtain ⟨fpx,mx,rx⟩:=om.mine;have xoc:=XO.out.below hbc' (by omega);have xmc:=XMR.out.below hbc' (by omega);have hS3:wc.cell? ⟨BO,3,none⟩=some (v0)/\wc.cell? ⟨w.heap.size,3,none⟩=some (.slice (some ⟨b,off,none⟩) nm cm)/\wc.cell? ⟨b,off+j*4,none⟩=some (.slice a0 ss.length c0)/\wc.cell? ⟨b,off+j*4+1,none⟩=some (.slice a1 cs.length c1)/\wc.cell? ⟨b,off+j*4+2,none⟩=some (.bool f)/\wc.cell? ⟨b,off+j*4+3,none⟩=some (.slice a3 bs.length c3'):=mk.out wc xoc xmc (hbc'.block b zb);have bB:=ae wc (.cells #[.slice e0 ss.length g0,.slice e1 cs.length g1,.bool f,.slice e3 bs.length g3] 101);have zc:=hbc'.size;have hS4:(wc.alloc (.cells #[.slice e0 ss.length g0,.slice e1 cs.length g1,.bool f,.slice e3 bs.length g3] 101)).cell? ⟨BO,3,none⟩=some (v0)/\(wc.alloc (.cells #[.slice e0 ss.length g0,.slice e1 cs.length g1,.bool f,.slice e3 bs.length g3] 101)).cell? ⟨w.heap.size,3,none⟩=some (.slice (some ⟨b,off,none⟩) nm cm)/\(wc.alloc (.cells #[.slice e0 ss.length g0,.slice e1 cs.length g1,.bool f,.slice e3 bs.length g3] 101)).cell? ⟨b,off+j*4,none⟩=some (.slice a0 ss.length c0)/\(wc.alloc (.cells #[.slice e0 ss.length g0,.slice e1 cs.length g1,.bool f,.slice e3 bs.length g3] 101)).cell? ⟨b,off+j*4+1,none⟩=some (.slice a1 cs.length c1)/\(wc.alloc (.cells #[.slice e0 ss.length g0,.slice e1 cs.length g1,.bool f,.slice e3 bs.length g3] 101)).cell? ⟨b,off+j*4+2,none⟩=some (.bool f)/\(wc.alloc (.cells #[.slice e0 ss.length g0,.slice e1 cs.length g1,.bool f,.slice e3 bs.length g3] 101)).cell? ⟨b,off+j*4+3,none⟩=some (.slice a3 bs.length c3'):=mk.out _ (xoc.alloc _) (xmc.alloc _) ((bB.block b (by omega)).trans (hbc'.block b zb));have XOC:=aa xoc;have XMC:=aa xmc;have MX:=aa mx;have RX:=aa rx;have HBC:=aa hbc';clear xoc xmc mx rx hbc' bc om o0 o1 o3 hm01 hm01' hm12 hm22 bB R0 R1 R3;go_wp2_with fail
   refine hK.out _ _ (fun _=>hS3) ?_
   clear hK K;refine ah.one (i:=8) (by kernel_rfl) rfl (fun K hK=>?_)
   go_simp
   refine hK.out _ _ (fun _=>hS4) ?_
   clear hK K;refine ah.one (i:=9) (by kernel_rfl) rfl (fun K hK=>?_)
   refine cF (bR 171) (by rfl) _ _ 26 (by rfl) 101 i4 (.agg #[.slice none 0 0,.slice none 0 0,.bool false,.slice none 0 0]) 80 Tryz.underlying26 hi4 hz0 hz1 hz2 rfl (by decide) v0 (ms.take j) fp0 (by rfl) ?_ ⟨wc.heap.size,0,none⟩ 1 [.slice e0 ss.length g0,.slice e1 cs.length g1,.bool f,.slice e3 bs.length g3] (ss,cs,f,bs) fpx (by rfl) ?_ ?_ ?_ ?_ L1.out L2.out ?_
   . exact (HM.out.below HBC.out).alloc _
   . exact MX.out.alloc _
   . intro b hb hb'
     have h1:=HM.out.lt b hb;have h2:=RX.out b hb';omega
   . exact bk _ _ _
   . intro u hu
     simp at hu
     rcases hu with hu|hu|hu|hu<;>(rw [hu];rfl)
   intro g cap wA fpA m1 m2 m3;rw [HL.out] at m1 ⊢;rw [←HTK.out] at m1;have ya:=(XOC.out.alloc (.cells #[.slice e0 ss.length g0,.slice e1 cs.length g1,.bool f,.slice e3 bs.length g3] 101)).turned m3 (fun hm=>by have:=HFP.out _ hm;omega);have ym:=(XMC.out.alloc (.cells #[.slice e0 ss.length g0,.slice e1 cs.length g1,.bool f,.slice e3 bs.length g3] 101)).turned m3 (fun hm=>by have:=HFP.out _ hm;omega);have zB:(wc.alloc (.cells #[.slice e0 ss.length g0,.slice e1 cs.length g1,.bool f,.slice e3 bs.length g3] 101)).heap.size=wc.heap.size+1:=by simp
   have zBb:b<(wc.alloc (.cells #[.slice e0 ss.length g0,.slice e1 cs.length g1,.bool f,.slice e3 bs.length g3] 101)).heap.size:=by omega
   have hS5:wA.cell? ⟨BO,3,none⟩=some (v0)/\wA.cell? ⟨w.heap.size,3,none⟩=some (.slice (some ⟨b,off,none⟩) nm cm)/\wA.cell? ⟨b,off+j*4,none⟩=some (.slice a0 ss.length c0)/\wA.cell? ⟨b,off+j*4+1,none⟩=some (.slice a1 cs.length c1)/\wA.cell? ⟨b,off+j*4+2,none⟩=some (.bool f)/\wA.cell? ⟨b,off+j*4+3,none⟩=some (.slice a3 bs.length c3'):=mk.out wA ya ym ((m3.block b zBb (fun hm=>by have:=HFP.out _ hm;omega)).trans (((ae wc (.cells #[.slice e0 ss.length g0,.slice e1 cs.length g1,.bool f,.slice e3 bs.length g3] 101)).block b (by omega)).trans (HBC.out.block b zb)));have r0:=hS5.1;have fz:=ya.frozen 3;have YA:=aa ya;have M1:=aa m1;have M2:=aa m2;have M3:=aa m3;clear ya ym m1 m2 m3 zB zBb;refine hK.out _ _ (fun _=>hS5) ?_
   clear hK K;simp only [Act.put,List.setIfInBounds_toArray,List.set_cons_zero,List.set_cons_succ]
   refine ah.t 10 hS5 ?_
   refine ah.one (i:=11) (by kernel_rfl) rfl (fun K hK=>?_)
   go_simp
   refine hK.out _ _ (fun h=>absurd rfl h) ?_
   clear hK K;refine ah.done (by kernel_rfl) ?_ _
   have HFA:=aa (dC (N:=LB) (by omega) HBC.out HFP.out RX.out M2.out);have FRA:=aa (Fr.round FRR.out (by omega) HBC.out _ M3.out HFP.out 3 (.slice (some ⟨g,0,none⟩) (j+1) cap));have MA:=aa (M1.out.setCell (g:=BO) (j:=3) (fun hm=>by have:=HFA.out _ hm;omega) (.slice (some ⟨g,0,none⟩) (j+1) cap));have YA':=aa (YA.out.set 3 (.slice (some ⟨g,0,none⟩) (j+1) cap));clear hS hS3 hS4 hS5 r0 YA M1 M2 M3 XOC MX RX HBC HFP HM FRR XO XMR XMC mk;go_wp2
   go_roundw
   case rel=>exact ⟨j+1,_,fpA,by omega,by go_num,FRA.out,YA'.out,MA.out,HFA.out⟩
   case measure=>simp [intOf];omega
 have ej:nm=j:=by omega
 subst ej;rw [List.take_of_length_le (by omega)] at hm;have hlt:=hm.lt;obtain ⟨eM,gM,hvM⟩:=az hm.rd;rw [hl0] at hvM;subst hvM;have KM:=hm.own (lo:=LB) (hi:=wr.heap.size) (fun b hb=>⟨hfp b hb,hlt b hb⟩);have xr:=fr.box XR2.out (by omega) (by omega);have b3:But BO (BO+1) (wr.alloc (.cells #[] 90)) ((wr.alloc (.cells #[] 90)).setCell ⟨BO,9,none⟩ (.slice (some ⟨wr.heap.size,0,none⟩) 0 0)):=But.setCell (by omega) (by omega) _;have xm3:Box ((wr.alloc (.cells #[] 90)).setCell ⟨BO,9,none⟩ (.slice (some ⟨wr.heap.size,0,none⟩) 0 0)) w.heap.size 29 #[.int .i64 x.id,.int .i64 x.n,.int .i64 x.s,.slice am nm cm,.int .i64 x.lost,.int .i64 x.vG,.int .i64 x.seq,.int .i64 x.tail,.int .i64 x.gen,.slice ad nd cd,.int .i64 x.vI,.bool x.down,.bool x.vH]:=(xm.alloc _).other (by omega) 9 _;have xr3:Box ((wr.alloc (.cells #[] 90)).setCell ⟨BO,9,none⟩ (.slice (some ⟨wr.heap.size,0,none⟩) 0 0)) BR 29 #[.int .i64 0,.int .i64 0,.int .i64 0,.slice none 0 0,.int .i64 0,.int .i64 0,.int .i64 0,.int .i64 0,.int .i64 0,.slice none 0 0,.int .i64 0,.bool false,.bool false]:=(xr.alloc _).other (by omega) 9 _;have xo3:Box ((wr.alloc (.cells #[] 90)).setCell ⟨BO,9,none⟩ (.slice (some ⟨wr.heap.size,0,none⟩) 0 0)) BO 29 #[.int .i64 x.id,.int .i64 x.n,.int .i64 x.s,.slice eM nm gM,.int .i64 x.lost,.int .i64 x.vG,.int .i64 x.seq,.int .i64 x.tail,.int .i64 x.gen,.slice (some ⟨wr.heap.size,0,none⟩) 0 0,.int .i64 x.vI,.bool x.down,.bool x.vH]:=(xo.alloc _).set 9 (.slice (some ⟨wr.heap.size,0,none⟩) 0 0);have ml3:(aU 90).Mine ((wr.alloc (.cells #[] 90)).setCell ⟨BO,9,none⟩ (.slice (some ⟨wr.heap.size,0,none⟩) 0 0)) [.slice (some ⟨wr.heap.size,0,none⟩) 0 0] [] [wr.heap.size]:=(dJ (t:=tWr) (E:=90) wr).setCell (by simp;omega) _;have km3:=(KM.below (ae wr (.cells #[] 90))).but b3 (.inr (by omega));have hB3:Below w.heap.size w ((wr.alloc (.cells #[] 90)).setCell ⟨BO,9,none⟩ (.slice (some ⟨wr.heap.size,0,none⟩) 0 0)):=(hb.alloc hb.size _).setCell (show w.heap.size<=BO by omega) _;have z3:wr.heap.size<((wr.alloc (.cells #[] 90)).setCell ⟨BO,9,none⟩ (.slice (some ⟨wr.heap.size,0,none⟩) 0 0)).heap.size:=by simp [World.setCell]
 have zL3:LB<wr.heap.size:=by omega
 have co9:(wr.alloc (.cells #[] 90)).cell? ⟨BO,9,none⟩=some (.slice ad nd cd):=(xo.alloc _).cell 9;have fo9:=(xo.alloc (.cells #[] 90)).frozen 9;clear fr xo xm hm hfp hlt KM xr b3 hb hs hj;go_wp2
 generalize (wr.alloc (.cells #[] 90)).setCell ⟨BO,9,none⟩ (.slice (some ⟨wr.heap.size,0,none⟩) 0 0)=W3 at xm3 xr3 xo3 ml3 km3 hB3 z3 ⊢;obtain ⟨LE,hLE⟩:∃LE,wr.heap.size=LE:=⟨_,rfl⟩;rw [hLE] at xo3 ml3 km3 z3 zL3 ⊢;clear hLE;have XM3:=aa xm3;have XR3:=aa xr3;have XO3:=aa xo3;have ML3:=aa ml3;have KM3:=aa km3;have HB3:=aa hB3;clear xm3 xr3 xo3 ml3 km3 hB3 XM2 XR2 XO2 ML2 HB2 hz;go_loopw [5] (fun i wr=>∃(j:Nat) (v1:Value) (fp1:List Nat),j<=nd/\i=.int .i64 j/\Fr LE BO W3 wr/\Box wr BO 29 #[.int .i64 x.id,.int .i64 x.n,.int .i64 x.s,.slice eM nm gM,.int .i64 x.lost,.int .i64 x.vG,.int .i64 x.seq,.int .i64 x.tail,.int .i64 x.gen,v1,.int .i64 x.vI,.bool x.down,.bool x.vH]/\(aU 90).Mine wr [v1] (ds.take j) fp1/\(∀b∈fp1,LE<=b)) (fun i _=>nd-(intOf i).toNat)
 case atStart=>exact ⟨0,_,[LE],Nat.zero_le _,rfl,Fr.refl _ _ _,XO3.out,ML3.out,by simp⟩
 obtain ⟨j,v1,fp1,hj,rfl,fr,xo,hm,hfp⟩:=hrel;have hs:=fr.size;have xm:=fr.box XM3.out (by omega) (by omega);have hb:=HB3.out.trans (fr.below (M:=w.heap.size) (by omega) (by omega));have c9:wr.cell? ⟨w.heap.size,9,none⟩=some (.slice ad nd cd):=xm.cell 9;by_cases hjn:j<nd
 . rcases cY rfl h1 with h0'|⟨b,off,rfl,hbl,hcs⟩
   . omega
   have hdj:ds[j]?=some (ds[j]'(by omega)):=List.getElem?_eq_getElem (by omega);have htk:ds.take (j+1)=ds.take j++[ds[j]'(by omega)]:=List.take_succ_eq_append_getElem (by omega);generalize ds[j]'(by omega)=d at hdj htk;have hil:=cE hdj;obtain ⟨u0,u1,hv0,hv1,hrv⟩:=hcs j d hdj;obtain ⟨rfl,hrv'⟩:=eI hrv;obtain ⟨av,cv,rfl⟩:=az hrv';have pv0:=(hb.cell (p:=⟨b,off+j*2,none⟩) hbl).trans hv0;have pv1:=(hb.cell (p:=⟨b,off+j*2+1,none⟩) hbl).trans hv1;obtain ⟨x0,x1⟩:=d;simp only at pv0 pv1 hrv' hil
   have HX:=aa (hrv'.below hb);have k1:(0:Int)<=(j:Int):=by omega
   have k2:(j:Int)<(nd:Int):=by omega
   have HTK:=aa htk;have XO:=aa xo;have XMR:=aa xm;have FRR:=aa fr;have HM:=aa hm;have HFP:=aa hfp;have HL:Hid ((ds.take j).length=j):=by unfold Hid;rw [List.length_take];omega
   have L1:Hid ((ds.take j).length+1<=maxLen):=by unfold Hid;rw [HL.out];unfold maxLen;omega
   have L2:Hid (((ds.take j).length+1)*32<=140737488355328):=by unfold Hid;rw [HL.out];omega
   have mk:Hid (∀w',Box w' BO 29 #[.int .i64 x.id,.int .i64 x.n,.int .i64 x.s,.slice eM nm gM,.int .i64 x.lost,.int .i64 x.vG,.int .i64 x.seq,.int .i64 x.tail,.int .i64 x.gen,v1,.int .i64 x.vI,.bool x.down,.bool x.vH]->Box w' w.heap.size 29 #[.int .i64 x.id,.int .i64 x.n,.int .i64 x.s,.slice am nm cm,.int .i64 x.lost,.int .i64 x.vG,.int .i64 x.seq,.int .i64 x.tail,.int .i64 x.gen,.slice (some ⟨b,off,none⟩) nd cd,.int .i64 x.vI,.bool x.down,.bool x.vH]->w'.heap[b]?=wr.heap[b]?->w'.cell? ⟨BO,9,none⟩=some (v1)/\w'.cell? ⟨w.heap.size,9,none⟩=some (.slice (some ⟨b,off,none⟩) nd cd)/\w'.cell? ⟨b,off+j*2,none⟩=some (.int .i64 x0)/\w'.cell? ⟨b,off+j*2+1,none⟩=some (.slice av x1.length cv)):=fun w' h1 h2 h3=>⟨h1.cell 9,h2.cell 9,(World.cell?_of_block (w:=wr) h3).trans pv0,(World.cell?_of_block (w:=wr) h3).trans pv1⟩;have bA:=ae wr (.cells #[] 3);have hS:wr.drew.cell? ⟨BO,9,none⟩=some (v1)/\wr.drew.cell? ⟨w.heap.size,9,none⟩=some (.slice (some ⟨b,off,none⟩) nd cd)/\wr.drew.cell? ⟨b,off+j*2,none⟩=some (.int .i64 x0)/\wr.drew.cell? ⟨b,off+j*2+1,none⟩=some (.slice av x1.length cv):=mk.out wr.drew xo xm rfl;have zb:b<wr.heap.size:=by have:=hb.size;omega
   have zLE:LE<wr.heap.size:=by omega
   have hS2:(wr.alloc (.cells #[] 3)).drew.cell? ⟨BO,9,none⟩=some (v1)/\(wr.alloc (.cells #[] 3)).drew.cell? ⟨w.heap.size,9,none⟩=some (.slice (some ⟨b,off,none⟩) nd cd)/\(wr.alloc (.cells #[] 3)).drew.cell? ⟨b,off+j*2,none⟩=some (.int .i64 x0)/\(wr.alloc (.cells #[] 3)).drew.cell? ⟨b,off+j*2+1,none⟩=some (.slice av x1.length cv):=mk.out (wr.alloc (.cells #[] 3)).drew (xo.alloc _) (xm.alloc _) (bA.block b zb);have HG:Hid ((wr.alloc (.cells #[] 3)).drew.heap[wr.heap.size]?=some (.cells #[] 3 (0,0))):=Box.new wr 3 #[];have RD:Hid (aA.Rd (wr.alloc (.cells #[] 3)).drew [.slice av x1.length cv] x1):=(HX.out.below bA).drew;have BA:=aa bA;clear hcs hdj hv0 hv1 hrv hrv' htk xo xm hm hfp hb fr pv0 pv1 bA;go_wp2_with fail
   refine ah.start (S:=fun w'=>w'.cell? ⟨BO,9,none⟩=some (v1)/\w'.cell? ⟨w.heap.size,9,none⟩=some (.slice (some ⟨b,off,none⟩) nd cd)/\w'.cell? ⟨b,off+j*2,none⟩=some (.int .i64 x0)/\w'.cell? ⟨b,off+j*2+1,none⟩=some (.slice av x1.length cv)) (k:=20) (by kernel_rfl) ?_
   refine ah.t 0 hS ?_
   refine ah.t 1 hS ?_
   refine ah.t 2 hS ?_
   refine ah.t 3 hS ?_
   refine ah.t 4 hS ?_
   refine ah.t 5 hS ?_
   refine ah.t 6 hS ?_
   refine ah.t 7 hS ?_
   refine ah.t 9 hS ?_
   refine ah.t 10 hS ?_
   refine ah.t 11 hS ?_
   refine ah.t 12 hS ?_
   refine ah.t 13 hS ?_
   refine ah.t 14 hS ?_
   refine ah.one (i:=8) (by kernel_rfl) rfl (fun K hK=>?_)
   go_simp
   refine hK.out _ _ (fun _=>hS2) ?_
   clear hK K;refine ah.one (i:=15) (by kernel_rfl) rfl (fun K hK=>?_)
   refine dL (by rfl) _ _ 31 (by rfl) i3 Tryz.underlying31 hi3 hx0 hx1 hx2 wr.heap.size (by rfl) HG.out av x1.length cv x1 (by rfl) RD.out (by omega) ?_
   intro ac cc wc fpx mx rx tx;have tx':aw [wr.heap.size] (wr.alloc (.cells #[] 3)) wc:=aw.undrew tx;have zA:(wr.alloc (.cells #[] 3)).heap.size=wr.heap.size+1:=by simp
   have zd:(wr.alloc (.cells #[] 3)).drew.heap.size=(wr.alloc (.cells #[] 3)).heap.size:=rfl;have hbc':Below wr.heap.size wr wc:=BA.out.trans (tx'.below (N:=wr.heap.size) (by omega) (by simp));have xoc:=XO.out.below hbc' (by omega);have xmc:=XMR.out.below hbc' (by omega);have hS3:wc.cell? ⟨BO,9,none⟩=some (v1)/\wc.cell? ⟨w.heap.size,9,none⟩=some (.slice (some ⟨b,off,none⟩) nd cd)/\wc.cell? ⟨b,off+j*2,none⟩=some (.int .i64 x0)/\wc.cell? ⟨b,off+j*2+1,none⟩=some (.slice av x1.length cv):=mk.out wc xoc xmc (hbc'.block b zb);have bB:=ae wc (.cells #[.int .i64 x0,.slice ac x1.length cc] 90);have zc:=hbc'.size;have hS4:(wc.alloc (.cells #[.int .i64 x0,.slice ac x1.length cc] 90)).cell? ⟨BO,9,none⟩=some (v1)/\(wc.alloc (.cells #[.int .i64 x0,.slice ac x1.length cc] 90)).cell? ⟨w.heap.size,9,none⟩=some (.slice (some ⟨b,off,none⟩) nd cd)/\(wc.alloc (.cells #[.int .i64 x0,.slice ac x1.length cc] 90)).cell? ⟨b,off+j*2,none⟩=some (.int .i64 x0)/\(wc.alloc (.cells #[.int .i64 x0,.slice ac x1.length cc] 90)).cell? ⟨b,off+j*2+1,none⟩=some (.slice av x1.length cv):=mk.out _ (xoc.alloc _) (xmc.alloc _) ((bB.block b (by omega)).trans (hbc'.block b zb));have RX:Hid (∀b∈fpx,wr.heap.size<=b/\b<wc.heap.size):=fun b hb=>by have:=rx b hb;omega
   have XOC:=aa xoc;have XMC:=aa xmc;have MX:=aa mx;have HBC:=aa hbc';clear xoc xmc mx rx tx tx' hbc' bB zA zd;refine hK.out _ _ (fun _=>hS3) ?_
   clear hK K;simp only [Act.put,List.setIfInBounds_toArray,List.set_cons_zero,List.set_cons_succ]
   refine ah.t 16 hS3 ?_
   refine ah.one (i:=17) (by kernel_rfl) rfl (fun K hK=>?_)
   go_simp
   refine hK.out _ _ (fun _=>hS4) ?_
   clear hK K;refine ah.one (i:=18) (by kernel_rfl) rfl (fun K hK=>?_)
   refine cF tWr (by rfl) _ _ 27 (by rfl) 90 i1 (.agg #[.int .i64 0,.slice none 0 0]) 32 Tryz.underlying27 hi1 hy0 hy1 hy2 rfl Nat.zero_lt_two v1 (ds.take j) fp1 (by rfl) ?_ ⟨wc.heap.size,0,none⟩ 1 [.int .i64 x0,.slice ac x1.length cc] (x0,x1) fpx (by rfl) ?_ ?_ ?_ ?_ L1.out L2.out ?_
   . exact (HM.out.below HBC.out).alloc _
   . exact (dK x0 MX.out).alloc _
   . intro b hb hb'
     have h1:=HM.out.lt b hb;have h2:=RX.out b hb';omega
   . exact bk _ _ _
   . intro u hu
     simp at hu
     rcases hu with hu|hu<;>(rw [hu];rfl)
   intro g cap wA fpA m1 m2 m3;rw [HL.out] at m1 ⊢;rw [←HTK.out] at m1;have ya:=(XOC.out.alloc (.cells #[.int .i64 x0,.slice ac x1.length cc] 90)).turned m3 (fun hm=>by have:=HFP.out _ hm;omega);have ym:=(XMC.out.alloc (.cells #[.int .i64 x0,.slice ac x1.length cc] 90)).turned m3 (fun hm=>by have:=HFP.out _ hm;omega);have zB:(wc.alloc (.cells #[.int .i64 x0,.slice ac x1.length cc] 90)).heap.size=wc.heap.size+1:=by simp
   have zBb:b<(wc.alloc (.cells #[.int .i64 x0,.slice ac x1.length cc] 90)).heap.size:=by omega
   have hS5:wA.cell? ⟨BO,9,none⟩=some (v1)/\wA.cell? ⟨w.heap.size,9,none⟩=some (.slice (some ⟨b,off,none⟩) nd cd)/\wA.cell? ⟨b,off+j*2,none⟩=some (.int .i64 x0)/\wA.cell? ⟨b,off+j*2+1,none⟩=some (.slice av x1.length cv):=mk.out wA ya ym ((m3.block b zBb (fun hm=>by have:=HFP.out _ hm;omega)).trans (((ae wc (.cells #[.int .i64 x0,.slice ac x1.length cc] 90)).block b (by omega)).trans (HBC.out.block b zb)));have r0:=hS5.1;have fz:=ya.frozen 9;have YA:=aa ya;have M1:=aa m1;have M2:=aa m2;have M3:=aa m3;clear ya ym m1 m2 m3 zB zBb;refine hK.out _ _ (fun _=>hS5) ?_
   clear hK K;simp only [Act.put,List.setIfInBounds_toArray,List.set_cons_zero,List.set_cons_succ]
   refine ah.t 19 hS5 ?_
   refine ah.one (i:=20) (by kernel_rfl) rfl (fun K hK=>?_)
   go_simp
   refine hK.out _ _ (fun h=>absurd rfl h) ?_
   clear hK K;refine ah.done (by kernel_rfl) ?_ _
   have HFA:=aa (dC (N:=LE) (by omega) HBC.out HFP.out RX.out M2.out);have FRA:=aa (Fr.round FRR.out (by omega) HBC.out _ M3.out HFP.out 9 (.slice (some ⟨g,0,none⟩) (j+1) cap));have MA:=aa (M1.out.setCell (g:=BO) (j:=9) (fun hm=>by have:=HFA.out _ hm;omega) (.slice (some ⟨g,0,none⟩) (j+1) cap));have YA':=aa (YA.out.set 9 (.slice (some ⟨g,0,none⟩) (j+1) cap));clear hS hS2 hS3 hS4 hS5 BA HG RD HX r0 YA M1 M2 M3 XOC MX RX HBC HFP HM FRR XO XMR XMC mk;go_wp2
   go_roundw
   case rel=>exact ⟨j+1,_,fpA,by omega,by go_num,FRA.out,YA'.out,MA.out,HFA.out⟩
   case measure=>simp [intOf];omega
 have ej:nd=j:=by omega
 subst ej;rw [List.take_of_length_le (by omega)] at hm;have hlt:=hm.lt;obtain ⟨eD,gD,hvD⟩:=az hm.rd;rw [hl1] at hvD;subst hvD;have K1:=hm.own (lo:=LE) (hi:=wr.heap.size) (fun b hb=>⟨hfp b hb,hlt b hb⟩);have K0:=fr.own KM3.out (Nat.le_refl _) (.inr (by omega));have xr:=fr.box XR3.out (by omega) (by omega);have hbt:=bN BR [(0,.int .i64 x.id),(1,.int .i64 x.n),(2,.int .i64 x.s),(3,.slice eM nm gM),(4,.int .i64 x.lost),(5,.int .i64 x.vG),(6,.int .i64 x.seq),(7,.int .i64 x.tail),(8,.int .i64 x.gen),(9,.slice eD nd gD),(10,.int .i64 x.vI),(11,.bool x.down),(12,.bool x.vH)] wr;have H0:=K0.but hbt (.inr (by omega));have H1:=K1.but hbt (.inr (by omega));have HBB:=Below.andBut hb hbt (by omega);have hsz:=hbt.size;have H0w:=aa (H0.widen (lo':=w.heap.size) (hi':=LE) (by omega) (Nat.le_refl _));have H1w:=aa (H1.widen (lo':=LE) (Nat.le_refl _) hsz);have HBw:=aa HBB;have HSZ:Hid (LE<=(bK wr BR [(0,.int .i64 x.id),(1,.int .i64 x.n),(2,.int .i64 x.s),(3,.slice eM nm gM),(4,.int .i64 x.lost),(5,.int .i64 x.vG),(6,.int .i64 x.seq),(7,.int .i64 x.tail),(8,.int .i64 x.gen),(9,.slice eD nd gD),(10,.int .i64 x.vI),(11,.bool x.down),(12,.bool x.vH)]).heap.size):=by unfold Hid;omega
 simp only [bK] at H0w H1w HBw HSZ
 obtain ⟨p0,p1,p2,p3,p4,p5,p6,p7,p8,p9,p10,p11,p12⟩:=xr.cells13;have fz:=xr.frozen;obtain ⟨r0,r1,r2,r3,r4,r5,r6,r7,r8,r9,r10,r11,r12⟩:=xo.cells13;have hLw:w.heap.size<=LE:=by omega
 clear fr xo xm hb hm hfp hlt xr K0 K1 hbt H0 H1 HBB hsz hj hs;go_wp2
 refine bodyPost_ret (v:=.agg #[.int .i64 x.id,.int .i64 x.n,.int .i64 x.s,.slice eM nm gM,.int .i64 x.lost,.int .i64 x.vG,.int .i64 x.seq,.int .i64 x.tail,.int .i64 x.gen,.slice eD nd gD,.int .i64 x.vI,.bool x.down,.bool x.vH]) (by simp [results,Tryz.results94,go_sem,p0,p1,p2,p3,p4,p5,p6,p7,p8,p9,p10,p11,p12]) rfl ?_
 exact ⟨_,_,_,_,LE,rfl,H0w.out,H1w.out,hLw,HSZ.out,HBw.out⟩
def AllSt (w:World) (B:Nat) (fm fd:List Nat) (q0:al×List ai) (ds:List aF) (n:Nat) (wr:World):Prop:=
 ∃(q:al×List ai) (es:List aF) (fm' fd':List Nat),es.length<=n/\aD wr B q.1 q.2 es fm' fd'/\fK q es=fK q0 ds/\aV q.2<=max (aV q0.2) 10005/\bh es<=bh ds/\aw (B :: (fm++fd)) w wr/\∀b,b∈fm'∨b∈fd'->b∈fm∨b∈fd∨w.heap.size<=b
theorem qx {w wr w':World} {B:Nat} {fm fd fm' fd':List Nat} {y:al} {ns:List ai} {es:List aF} (hT:aw (B :: (fm++fd)) w wr) (hN:∀b,b∈fm'∨b∈fd'->b∈fm∨b∈fd∨w.heap.size<=b) (h:Fl8 wr B fm' fd' y ns es w'):Fl8 w B fm fd y ns es w':=by
 obtain ⟨fm2,fd2,hA,hT2,hN2⟩:=h;have hs:=hT.size;refine ⟨fm2,fd2,hA,⟨hT2.os.trans hT.os,hT2.tape.trans hT.tape,hT2.output.trans hT.output,Nat.le_trans hT.size hT2.size,fun k hk hf=>?_⟩,fun b hb=>?_⟩
 . rw [hT2.block k (by omega) (fun hm=>?_),hT.block k hk hf]
   simp only [List.mem_cons,List.mem_append] at hm hf
   rcases hm with h|h
   . exact hf (.inl h)
   rcases hN k h with h|h|h
   . exact hf (.inr (.inl h))
   . exact hf (.inr (.inr h))
   omega
 rcases hN2 b hb with h|h|h
 . exact hN b (.inl h)
 . exact hN b (.inr h)
 exact .inr (.inr (by omega))
theorem tp (w:World) (B:Nat) (x:al) (ms:List ai) (ds:List aF) (fm fd:List Nat) (h:aD w B x ms ds fm fd) (hw:aM ms ds<=1900000):
 Calls Tryz.prog 125 #[.pointer (some ⟨B,0,none⟩)] w fun e w'=>e=.returned (.int .i64 (fK (x,ms) ds).2.2)/\Fl8 w B fm fd (fK (x,ms) ds).1.1 (fK (x,ms) ds).1.2 (fK (x,ms) ds).2.1 w':=by
 have HA:=aa h;have hlB:=h.lt;unfold aM at hw;clear h;go_enter Tryz.func125,Tryz.ntmps125
 go_wp2
 go_loopg [3] ds.length (fun kx _ wr=>AllSt w B fm fd (x,ms) ds kx wr)
 case atStart=>exact ⟨(x,ms),ds,fm,fd,Nat.le_refl _,HA.out,rfl,Nat.le_max_left _ _,Nat.le_refl _,aw.refl _ _,fun _ h=>h.elim .inl (fun h=>.inr (.inl h))⟩
 obtain ⟨q,es,fm1,fd1,hk,hA,hR,hw1,hw2,hT,hN⟩:=hrel;have hw3:aM q.2 es<=2097152:=by unfold aM;have h9:aV q.2<=max (aV ms) 10005:=hw1;omega
 have HAW:=aa hA;obtain ⟨bm,bd,cm,cd,X,hm,hd,hr,r1,r2⟩:=hA;have k9:wr.cell? ⟨B,9,none⟩=some (.slice bd es.length cd):=by unfold aC at X;exact X.cells13.2.2.2.2.2.2.2.2.2.1
 have hcd:=(af hd.rd).2;have HT:=aa hT;have HN:=aa hN;have HR:=aa hR;have HW1:=aa hw1;have HW2:=aa hw2;cases es with
 | nil=>
  have HF:Hid (Fl8 w B fm fd (fK (x,ms) ds).1.1 (fK (x,ms) ds).1.2 (fK (x,ms) ds).2.1 wr/\(fK (x,ms) ds).2.2=0):=by
   unfold Hid;rw [←hR];exact ⟨⟨fm1,fd1,HAW.out,hT,hN⟩,rfl⟩
  clear X hm hd hr r1 r2 hT hN hR HAW;rw [List.length_nil] at k9 hcd;go_wp2
  go_ret
  exact ⟨aG HF.out.2.symm,HF.out.1⟩
 | cons e es=>
  obtain ⟨g,rfl⟩:=bU hd (by simp);obtain ⟨fps,e1,e2,e3,e4⟩:=kh hd;obtain ⟨f,g',av,cv,hf,hg',hgl,hgd,hgf,v0,v1,hmd⟩:=e4 0 e rfl;simp only [Option.some.injEq,Addr.mk.injEq,and_true] at hg'
  subst hg';have v0':wr.cell? ⟨g,0,none⟩=some (.int .i64 e.1):=by simpa using v0
  have HLF:=aa (kY wr B q.1 q.2 (e :: es) fm1 fd1 HAW.out hw3 e.1);have HST:=aa (fun h0=>(oq (q:=q) (e:=e) (es:=es) h0).symm.trans hR);have HSP:=aa (fun h0=>(ot (q:=q) (e:=e) (es:=es) h0).symm.trans hR);have HFD:=aa (sr (q:=q) (e:=e) (es:=es));have HWT:=aa (vv q (e :: es) e.1);have HDR:Hid (bh es<=bh (e :: es)):=pH (e :: es) 0;obtain ⟨y,ys⟩:=e;simp only at v0'
  generalize hEL:(((y,ys):aF) :: es).length=el at k9 hcd hk;have hel:0<el/\es.length<el/\es.length+1<=el:=by rw [←hEL];simp
  have k1:(0:Int)<(el:Int):=by omega
  have k2:(el:Int)>0:=by omega
  clear X hm hd hr r1 r2 hT hN hR HAW e1 e2 e3 e4 hf hmd v0 v1 hw1 hw2 hEL;go_wp2_with fail
  refine HLF.out.mono ?_
  rintro e w2 ⟨rfl,hF⟩;rw [HFD.out] at hF;generalize hfc:gy q.1 q.2 (((y,ys):aF) :: es) y=fc at HST HSP HFD hF ⊢;have HFC:Hid (gy q.1 q.2 (((y,ys):aF) :: es) ((y,ys):aF).1=fc):=hfc;clear hfc;by_cases h0:fc=0
  . subst h0
    rw [if_pos rfl] at hF;have HF:=aa (qx HT.out HN.out hF);have HR2:=aa (HST.out rfl);clear hF;go_wp2
    go_roundg es.length
    case measure=>omega
    obtain ⟨fm2,fd2,hA2,hT2,hN2⟩:=HF.out;refine ⟨eH q.1 q.2 (((y,ys):aF) :: es) y,es,fm2,fd2,Nat.le_refl _,hA2,HR2.out,?_,Nat.le_trans HDR.out HW2.out,hT2,hN2⟩
    have h1:=HWT.out;have h2:aV q.2<=max (aV ms) 10005:=HW1.out;have h3:aV (eH q.1 q.2 (((y,ys):aF) :: es) y).2<=max (aV q.2) 10005:=h1;show aV (eH q.1 q.2 (((y,ys):aF) :: es) y).2<=max (aV ms) 10005
    omega
  rw [if_neg h0] at hF;have HF:Hid (Fl8 w B fm fd (fK (x,ms) ds).1.1 (fK (x,ms) ds).1.2 (fK (x,ms) ds).2.1 w2/\(fK (x,ms) ds).2.2=fc):=by
   unfold Hid;rw [←HSP.out h0];exact ⟨qx HT.out HN.out hF,rfl⟩
  have e0:(fc !=0)=true:=by simpa using h0
  clear hF h0;go_wp2
  go_ret
  exact ⟨aG HF.out.2.symm,HF.out.1⟩
def Cur (w:World) (g:Nat) (a:Option Addr) (lb cb:Nat):Prop:=
 ∃(i:Nat) (h:Int),i<=lb/\w.heap[g]?=some (.cells #[.slice a lb cb,.int .i64 i,.int .i64 h] 115 (0,0))
theorem Cur.lt {w:World} {g lb cb:Nat} {a:Option Addr} (h:Cur w g a lb cb):g<w.heap.size:=by
 obtain ⟨_,_,_,hg⟩:=h;exact (Array.getElem?_eq_some_iff.1 hg).1
theorem Cur.but {w w':World} {g lb cb l h':Nat} {a:Option Addr} (h:Cur w g a lb cb) (hb:But l h' w w') (hd:g<l∨h'<=g):Cur w' g a lb cb:=by
 have hlt:=h.lt;obtain ⟨i,x,hi,hg⟩:=h;exact ⟨i,x,hi,by rw [hb.block g hlt hd];exact hg⟩
theorem Cur.below {w w':World} {g lb cb:Nat} {a:Option Addr} (h:Cur w g a lb cb) (hb:Below w.heap.size w w'):Cur w' g a lb cb:=by
 have hlt:=h.lt;obtain ⟨i,x,hi,hg⟩:=h;exact ⟨i,x,hi,by rw [hb.block g hlt];exact hg⟩
theorem iB (n:Int):bits .and .i64 n 255=n % 256:=by
 have h255:(BitVec.ofInt 64 255).toNat=2 ^ 8-1:=by decide
 have key:(BitVec.ofInt 64 n &&& BitVec.ofInt 64 255).toNat=(n % ((2 ^ 64:Nat):Int)).toNat % 2 ^ 8:=by
  rw [BitVec.toNat_and,BitVec.toNat_ofInt,h255,Nat.and_two_pow_sub_one_eq_mod]
 show IntKind.i64.wrap ((BitVec.ofInt 64 n &&& BitVec.ofInt 64 255).toNat:Nat)=n % 256
 rw [key,IntKind.wrap_i64];omega
theorem tq {w:World} {g lb cb i:Nat} {a:Option Addr} {h:Int} (hi:i<=lb) (hg:w.heap[g]?=some (.cells #[.slice a lb cb,.int .i64 i,.int .i64 h] 115 (0,0))) (h':Int) (n m:Nat):
 Cur (((w.setCell ⟨g,2,none⟩ (.int .i64 h')).drewN n).drewN m) g a lb cb:=⟨i,h',hi,heap_setCell_same w g 2 _ _ _ hg⟩
theorem uG {w:World} {g lb cb i:Nat} {a:Option Addr} {h:Int} (hi:i<lb) (hg:w.heap[g]?=some (.cells #[.slice a lb cb,.int .i64 i,.int .i64 h] 115 (0,0))) (h':Int) (n:Nat):
 Cur (((w.setCell ⟨g,2,none⟩ (.int .i64 h')).drewN n).setCell ⟨g,1,none⟩ (.int .i64 ((i:Int)+1))) g a lb cb:=by
 have h1:(((w.setCell ⟨g,2,none⟩ (.int .i64 h')).drewN n)).heap[g]?=some (.cells #[.slice a lb cb,.int .i64 i,.int .i64 h'] 115 (0,0)):=heap_setCell_same w g 2 _ _ _ hg;exact ⟨i+1,h',by omega,heap_setCell_same _ g 1 _ _ _ h1⟩
theorem rJ (w:World) (g:Nat) (a:Option Addr) (lb cb:Nat) (zs:List Int) (hc:Cur w g a lb cb) (hz:zs.length=lb) (hr:aK .u8 w a zs) (hby:∀n∈zs,0<=n/\n<=255) (hlb:lb<=2097152) (ha:0<lb->∀x,a=some x->x.block<g):
 Calls Tryz.prog 211 #[.pointer (some ⟨g,0,none⟩)] w fun e w'=>∃x:Int,e=.returned (.int .i64 x)/\0<=x/\x<=255/\Cur w' g a lb cb/\But g (g+1) w w':=by
 obtain ⟨i,h,hi,hg⟩:=hc;have hc0:w.cell? ⟨g,0,none⟩=some (.slice a lb cb):=by rw [cell_of_row w g 0 _ _ _ hg];rfl
 have hc1:w.cell? ⟨g,1,none⟩=some (.int .i64 i):=by rw [cell_of_row w g 1 _ _ _ hg];rfl
 have hc2:w.cell? ⟨g,2,none⟩=some (.int .i64 h):=by rw [cell_of_row w g 2 _ _ _ hg];rfl
 have hf1:w.frozen? ⟨g,1,none⟩=false:=frozen_of_row w g 1 _ _ hg;have hf2:w.frozen? ⟨g,2,none⟩=false:=frozen_of_row w g 2 _ _ hg;have HG:Hid (w.heap[g]?=some (.cells #[.slice a lb cb,.int .i64 i,.int .i64 h] 115 (0,0))):=hg;clear hg;by_cases hlt:i<lb
 . rcases hr.cases with h0|⟨b,off,rfl,hbl,hcz⟩
   . omega
   have hbg:b<g:=ha (by omega) _ rfl;have hcx:=hcz i (by omega);have hbx:=vf hby i;generalize zs.getD i 0=y at hcx hbx;clear hcz;go_enter Tryz.func211,Tryz.ntmps211
   go_wp2
   go_quiet (fail)
   go_wp2
   go_quiet (fail)
   go_wp2
   go_quiet (fail)
   go_wp2
   go_ret
   exact ⟨_,rfl,by rw [iB];omega,by rw [iB];omega,uG hlt HG.out _ _,((But.setCell (Nat.le_refl _) (by omega) _).drewN _).trans (But.setCell (Nat.le_refl _) (by omega) _)⟩
 go_enter Tryz.func211,Tryz.ntmps211
 go_wp2
 go_quiet (fail)
 go_wp2
 go_quiet (fail)
 go_wp2
 go_ret
 exact ⟨_,rfl,by rw [iB];omega,by rw [iB];omega,tq hi HG.out _ _ _,((But.setCell (Nat.le_refl _) (by omega) _).drewN _).drewN _⟩
theorem oE (w:World) (a:Option Addr) (lb cb:Nat) (zs:List Int) (hz:zs.length=lb) (hr:aK .u8 w a zs) (hlb:lb<=2097152):
 Calls Tryz.prog 68 #[.slice a lb cb] w fun e w'=>e=.returned (.pointer (some ⟨w.heap.size,0,none⟩))/\Cur w' w.heap.size a lb cb/\Below w.heap.size w w':=by
 go_enter Tryz.func68,Tryz.ntmps68
 go_wp2
 go_loop [3,4] (fun h i=>∃(j:Nat) (x:Int),j<=lb/\i=.int .i64 j/\h=.int .i64 x) (fun _ i=>lb-(intOf i).toNat)
 case atStart=>exact ⟨0,_,Nat.zero_le _,rfl,rfl⟩
 obtain ⟨j,x,hj,rfl,rfl⟩:=hrel;by_cases hlt:j<lb
 . by_cases h4:(j:Int)<4000
   . rcases hr.cases with h0|⟨b,off,rfl,hbl,hc⟩
     . omega
     have hc1:=hc j (by omega);generalize zs.getD j 0=y at hc1;clear hc;go_wp2
     go_round
     case rel=>exact ⟨j+1,_,by omega,by go_num,rfl⟩
     case measure=>simp [intOf];omega
   go_wp2
   go_ret
   exact ⟨rfl,⟨0,_,Nat.zero_le _,heap_alloc_new w _⟩,(Below.refl _ _).alloc (Nat.le_refl _) _⟩
 go_wp2
 go_ret
 exact ⟨rfl,⟨0,_,Nat.zero_le _,heap_alloc_new w _⟩,(Below.refl _ _).alloc (Nat.le_refl _) _⟩
theorem li (w:World) (g:Nat) (a:Option Addr) (lb cb:Nat) (zs:List Int) (n:Int) (hc:Cur w g a lb cb) (hz:zs.length=lb) (hr:aK .u8 w a zs) (hby:∀n∈zs,0<=n/\n<=255) (hlb:lb<=2097152) (ha:0<lb->∀x,a=some x->x.block<g) (hn:0<=n) (hn':n<=256):
 Calls Tryz.prog 149 #[.pointer (some ⟨g,0,none⟩),.int .i64 n] w fun e w'=>∃x:Int,e=.returned (.int .i64 x)/\0<=x/\(x<n∨x=0)/\Cur w' g a lb cb/\But g (g+1) w w':=by
 by_cases h0:n=0
 . subst h0
   go_enter Tryz.func149,Tryz.ntmps149
   go_wp2
   go_ret
   exact ⟨_,rfl,by omega,by omega,hc,But.refl _ _ _⟩
 have h1:1<=n:=by omega
 go_enter Tryz.func149,Tryz.ntmps149
 go_wp2_with fail
 refine (rJ _ g a lb cb zs hc hz hr hby hlb ha).mono ?_
 rintro e w1 ⟨x,rfl,hx0,hx1,hc1,hb1⟩;go_wp2
 go_ret
 exact ⟨_,rfl,Int.emod_nonneg _ (by omega),.inl (Int.emod_lt_of_pos _ (by omega)),hc1,hb1⟩
theorem tr (w:World) (g:Nat) (a:Option Addr) (lb cb:Nat) (zs:List Int) (la:Option Addr) (ll lc:Nat) (ls:List Int) (hc:Cur w g a lb cb) (hz:zs.length=lb) (hr:aK .u8 w a zs) (hby:∀n∈zs,0<=n/\n<=255) (hlb:lb<=2097152) (ha:0<lb->∀x,a=some x->x.block<g)
 (hl:ls.length=ll) (hlr:aK .i64 w la ls) (hla:∀x,la=some x->g+1<=x.block) (h1:1<=ll) (h2:ll<=256):
 Calls Tryz.prog 88 #[.pointer (some ⟨g,0,none⟩),.slice la ll lc] w fun e w'=>∃x:Int,e=.returned (.int .i64 x)/\x∈ls/\Cur w' g a lb cb/\But g (g+1) w w':=by
 rcases hlr.cases with h0|⟨b,off,rfl,hbl,hcs⟩
 . omega
 have hbg:g+1<=b:=hla _ rfl;go_enter Tryz.func88,Tryz.ntmps88
 go_wp2_with fail
 refine (li _ g a lb cb zs _ hc hz hr hby hlb ha (by omega) (by omega)).mono ?_
 rintro e w1 ⟨x,rfl,hx0,hx1,hc1,hb1⟩;obtain ⟨x,rfl⟩:=Int.eq_ofNat_of_zero_le hx0;have hxl:x<ll:=by omega
 have hcx:w1.cell? ⟨b,off+x,none⟩=some (.int .i64 (ls.getD x 0)):=by
  rw [World.cell?_of_block (w:=w) (hb1.block b hbl (.inr hbg))];exact hcs x (by omega)
 have HM:Hid (ls.getD x 0∈ls):=by
  unfold Hid;rw [List.getD_eq_getElem?_getD,List.getElem?_eq_getElem (by omega)];exact List.getElem_mem _
 generalize ls.getD x 0=y at hcx HM;clear hcs;go_wp2
 go_ret
 exact ⟨_,rfl,HM.out,hc1,hb1⟩
theorem bj.but {k:IntKind} {E:TypeId} {w w':World} {lo l h':Nat} {v:Value} {zs:List Int} (h:bj k E w lo v zs) (hb:But l h' w w') (hd:h'<=lo):bj k E w' lo v zs:=(h.own.but hb (.inr hd)).1
theorem aK.but {k:IntKind} {w w':World} {a:Option Addr} {zs:List Int} {g h':Nat} (h:aK k w a zs) (hb:But g h' w w') (ha:0<zs.length->∀x,a=some x->x.block<g):aK k w' a zs:=by
 by_cases h0:zs.length=0
 . exact .inl (List.eq_nil_of_length_eq_zero h0)
 rcases h with h|⟨b,off,rfl,hlt,hc⟩
 . exact .inl h
 have hx:b<g:=ha (by omega) _ rfl;refine .inr ⟨b,off,rfl,Nat.lt_of_lt_of_le hlt hb.size,fun i hi=>?_⟩
 rw [World.cell?_of_block (w:=w) (hb.block b hlt (.inl hx))];exact hc i hi
theorem Cur.lower {w w':World} {g lb cb B:Nat} {a:Option Addr} (h:Cur w g a lb cb) (hb:Below B w w') (hB:g<B):Cur w' g a lb cb:=by
 obtain ⟨i,x,hi,hg⟩:=h;exact ⟨i,x,hi,by rw [hb.block g hB];exact hg⟩
theorem aK.lower {k:IntKind} {w w':World} {a:Option Addr} {zs:List Int} {B:Nat} (h:aK k w a zs) (hb:Below B w w') (ha:0<zs.length->∀x,a=some x->x.block<B):aK k w' a zs:=by
 by_cases h0:zs.length=0
 . exact .inl (List.eq_nil_of_length_eq_zero h0)
 exact h.old (ha (by omega)) hb
theorem aK.ahead {k:IntKind} {w:World} {a:Option Addr} {zs:List Int} {n:Nat} (h:aK k w a zs) (hn:zs.length=n):0<n->∀x,a=some x->x.block<w.heap.size:=by
 intro h0 x hx;rcases h.cases with h1|⟨b,off,rfl,hlt,_⟩
 . omega
 simp at hx
 subst hx;exact hlt
structure aO (w:World) (g:Nat) (a:Option Addr) (lb cb:Nat) (zs:List Int):Prop where
 cur:Cur w g a lb cb
 len:zs.length=lb
 reads:aK .u8 w a zs
 bytes:∀n∈zs,0<=n/\n<=255
 few:lb<=2097152
 ahead:0<lb->∀x,a=some x->x.block<g
theorem aO.lt {w:World} {g lb cb:Nat} {a:Option Addr} {zs:List Int} (h:aO w g a lb cb zs):g<w.heap.size:=h.cur.lt
theorem aO.next {w w':World} {g lb cb:Nat} {a:Option Addr} {zs:List Int} (h:aO w g a lb cb zs) (hc:Cur w' g a lb cb) (hb:But g (g+1) w w'):aO w' g a lb cb zs:=
 ⟨hc,h.len,h.reads.but hb (by rw [h.len];exact h.ahead),h.bytes,h.few,h.ahead⟩
theorem aO.lower {w w':World} {g lb cb B:Nat} {a:Option Addr} {zs:List Int} (h:aO w g a lb cb zs) (hb:Below B w w') (hB:g<B):aO w' g a lb cb zs:=
 ⟨h.cur.lower hb hB,h.len,h.reads.lower hb (by rw [h.len];exact fun h0 x hx=>Nat.lt_trans (h.ahead h0 x hx) hB),h.bytes,h.few,h.ahead⟩
theorem aO.alloc {w:World} {g lb cb:Nat} {a:Option Addr} {zs:List Int} (h:aO w g a lb cb zs) (o:Obj):aO (w.alloc o) g a lb cb zs:=h.lower ((Below.refl _ _).alloc (Nat.le_refl _) o) h.lt
theorem bJ {w:World} {g lb cb:Nat} {a:Option Addr} {zs:List Int} (h:aO w g a lb cb zs) (n:Int) (hn:0<=n) (hn':n<=256):
 Calls Tryz.prog 149 #[.pointer (some ⟨g,0,none⟩),.int .i64 n] w fun e w'=>∃x:Int,e=.returned (.int .i64 x)/\0<=x/\(x<n∨x=0)/\aO w' g a lb cb zs/\But g (g+1) w w':=
 (li w g a lb cb zs n h.cur h.len h.reads h.bytes h.few h.ahead hn hn').mono fun _ _ ⟨x,he,h0,h1,hc,hb⟩=>⟨x,he,h0,h1,h.next hc hb,hb⟩
theorem kI {w:World} {g lb cb:Nat} {a:Option Addr} {zs:List Int} (h:aO w g a lb cb zs) (la:Option Addr) (ll lc:Nat) (ls:List Int) (hl:ls.length=ll) (hlr:aK .i64 w la ls) (hla:∀x,la=some x->g+1<=x.block) (h1:1<=ll) (h2:ll<=256):
 Calls Tryz.prog 88 #[.pointer (some ⟨g,0,none⟩),.slice la ll lc] w fun e w'=>∃x:Int,e=.returned (.int .i64 x)/\x∈ls/\aO w' g a lb cb zs/\But g (g+1) w w':=
 (tr w g a lb cb zs la ll lc ls h.cur h.len h.reads h.bytes h.few h.ahead hl hlr hla h1 h2).mono fun _ _ ⟨x,he,h0,hc,hb⟩=>⟨x,he,h0,h.next hc hb,hb⟩
theorem eT {w:World} {g lb cb:Nat} {a:Option Addr} {zs:List Int} (h:aO w g a lb cb zs):
 Calls Tryz.prog 161 #[.pointer (some ⟨g,0,none⟩)] w fun e w'=>∃x:Int,e=.returned (.int .i64 x)/\isW x=true/\aO w' g a lb cb zs/\But g (g+1) w w':=by
 have hg:=h.lt;go_enter Tryz.func161,Tryz.ntmps161
 go_wp2_with fail
 refine (kI (h.alloc _) _ 8 _ [0,1,2,7,255,256,4660,65535] rfl (aK.new _ _ _ _ _ rfl) ?hx (by omega) (by omega)).mono ?_
 case hx=>intro x hx;simp at hx;subst hx;exact hg
 rintro e w1 ⟨x,rfl,hx,hd1,hb1⟩;have hw:isW x=true:=by
  simp at hx
  rcases hx with rfl|rfl|rfl|rfl|rfl|rfl|rfl|rfl<;>rfl
 have hB:=((But.refl g (g+1) w).alloc _).trans hb1;clear hb1 hx;go_wp2
 go_ret
 exact ⟨_,rfl,hw,hd1,hB⟩
theorem kJ {w:World} {g lb cb:Nat} {a:Option Addr} {zs:List Int} (h:aO w g a lb cb zs):
 Calls Tryz.prog 159 #[.pointer (some ⟨g,0,none⟩)] w fun e w'=>∃(v:Value) (xs:List Int),e=.returned v/\xs.length<=4/\cG xs=true/\bj .i64 3 w' w.heap.size v xs/\aO w' g a lb cb zs/\But g (g+1) w w':=by
 obtain ⟨i0,hi,hz0,hz1,hz2⟩:=info_parts Tryz.info3;have hown0:bj .i64 3 (w.alloc (.cells #[] 3)) w.heap.size (.slice (some ⟨w.heap.size,0,none⟩) 0 0) []:=bj.lit .i64 3 w [] 0 #[] rfl rfl (by unfold maxLen;omega);have hg:=h.lt;go_enter Tryz.func159,Tryz.ntmps159
 go_wp2_with fail
 refine (bJ (h.alloc _) 5 (by omega) (by omega)).mono ?_
 rintro e w1 ⟨n,rfl,hn0,hn1,hd1,hb1⟩;have ho1:=hown0.but hb1 (by omega);have hB1:=((But.refl g (g+1) w).alloc _).trans hb1;obtain ⟨n,rfl⟩:=Int.eq_ofNat_of_zero_le hn0;have hn4:n<=4:=by omega
 clear hb1 hown0 hn0 hn1;go_wp2
 go_loopw [3,4] (fun o i wr=>∃(j:Nat) (xs:List Int),xs.length+j<=4/\i=.int .i64 j/\cG xs=true/\bj .i64 3 wr w.heap.size o xs/\aO wr g a lb cb zs/\But g (g+1) w wr) (fun _ i _=>(intOf i).toNat)
 case atStart=>exact ⟨n,[],by simpa using hn4,rfl,rfl,ho1,hd1,hB1⟩
 clear ho1 hd1 hB1;obtain ⟨j,xs,hj,rfl,hxs,ho,hd,hb⟩:=hrel;by_cases hlt:0<j
 . go_wp2_with fail
   refine (eT hd).mono ?_
   rintro e w2 ⟨x,rfl,hx,hd2,hb2⟩;have ho2:=ho.but hb2 (by omega);have hB2:=hb.trans hb2;have hsz:=hB2.size;clear hb2 ho hd hb;go_wp2_with (at_builtin;refine cZ .i64 (by rfl) _ _ 31 (by rfl) w.heap.size 3 i0 _ 8 Tryz.underlying31 hi hz0 hz1 hz2 rfl _ xs (by rfl) (ho2.alloc _) ⟨w2.heap.size,0,none⟩ 1 1 [x] (by rfl) rfl (aK.new _ _ _ _ _ rfl) ?h1 ?h2 ?h3 ?_)
   case h1=>unfold maxLen;omega
   case h2=>omega
   case h3=>simp;omega
   intro v' w3 ho3 hb3;have hl3:(xs++[x]).length+(j-1)<=4:=by simp;omega
   have hxs3:cG (xs++[x])=true:=by unfold cG at *;simp [hxs,hx]
   have hd3:=(hd2.alloc (.cells #[.int .i64 x] 3)).lower hb3 hg;have hB3:=(hB2.alloc (.cells #[.int .i64 x] 3)).thenBelow hb3;clear hb3 ho2 hd2 hB2;go_wp2
   go_roundw
   case rel=>exact ⟨j-1,xs++[x],hl3,by go_num,hxs3,ho3,hd3,hB3⟩
   case measure=>simp [intOf];omega
 go_wp2
 go_ret
 exact ⟨_,xs,rfl,by omega,hxs,ho,hd,hb⟩
theorem jm {w:World} {g lb cb:Nat} {a:Option Addr} {zs:List Int} (h:aO w g a lb cb zs):
 Calls Tryz.prog 87 #[.pointer (some ⟨g,0,none⟩)] w fun e w'=>∃(v:Value) (xs:List Int),e=.returned v/\xs.length<=13/\bj .i64 3 w' w.heap.size v xs/\aO w' g a lb cb zs/\But g (g+1) w w':=by
 obtain ⟨i0,hi,hz0,hz1,hz2⟩:=info_parts Tryz.info3;have hg:=h.lt;go_enter Tryz.func87,Tryz.ntmps87
 go_wp2_with fail
 refine (kJ h).mono ?_
 rintro e w1 ⟨v1,xs,rfl,hl1,_,ho1,hd1,hb1⟩;go_wp2_with fail
 refine (bJ hd1 10 (by omega) (by omega)).mono ?_
 rintro e w2 ⟨n,rfl,hn0,hn1,hd2,hb2⟩;have ho2:=ho1.but hb2 (by omega);have hB2:=hb1.trans hb2;have hsz:=hB2.size;clear ho1 hd1 hb1 hb2;by_cases e0:n=0
 . subst e0
   go_wp2_with fail
   refine (kI (hd2.alloc _) _ 2 _ [-1,65536] rfl (aK.new _ _ _ _ _ rfl) ?hx (by omega) (by omega)).mono ?_
   case hx=>intro x hx;simp at hx;subst hx;exact hd2.lt
   rintro e w3 ⟨x,rfl,_,hd3,hb3⟩;have ho3:=(ho2.alloc (.cells #[.int .i64 (-1),.int .i64 65536] 3)).but hb3 (by omega);have hB3:=(hB2.alloc _).trans hb3;have hsz3:=hB3.size;clear ho2 hd2 hB2 hb3;go_wp2_with (at_builtin;refine cZ .i64 (by rfl) _ _ 31 (by rfl) w.heap.size 3 i0 _ 8 Tryz.underlying31 hi hz0 hz1 hz2 rfl _ xs (by rfl) (ho3.alloc _) ⟨w3.heap.size,0,none⟩ 1 1 [x] (by rfl) rfl (aK.new _ _ _ _ _ rfl) ?h1 ?h2 ?h3 ?_)
   case h1=>unfold maxLen;omega
   case h2=>omega
   case h3=>simp;omega
   intro v' w4 ho4 hb4;have hl4:(xs++[x]).length<=13:=by simp;omega
   have hd4:=(hd3.alloc (.cells #[.int .i64 x] 3)).lower hb4 hg;have hB4:=(hB3.alloc (.cells #[.int .i64 x] 3)).thenBelow hb4;clear hb4 ho3 hd3 hB3;go_wp2
   go_ret
   exact ⟨_,_,rfl,hl4,ho4,hd4,hB4⟩
 by_cases e1:n=1
 . subst e1
   go_wp2_with fail
   refine (bJ hd2 2 (by omega) (by omega)).mono ?_
   rintro e w3 ⟨m,rfl,hm0,hm1,hd3,hb3⟩;obtain ⟨m,rfl⟩:=Int.eq_ofNat_of_zero_le hm0;have hm:m<=1:=by omega
   have hB3:=hB2.trans hb3;have hsz3:=hB3.size;clear ho2 hd2 hB2 hb3 hm0 hm1;have hb3':i0.bytes*(12+m)<=281474976710656:=by rw [hz2];omega
   have hm3:12+m<=maxLen:=by unfold maxLen;omega
   go_wp2_with (at_make;refine wpList_make_full _ rfl _ _ 31 rfl w.heap.size 3 i0 (.int .i64 0) 1 Tryz.underlying31 hi hz0 hz1 _ _ _ _ (12+m) rfl rfl (by omega) (by omega) hb3' hm3 hsz3 ?_;intro w4 hown hgrow)
   have ho4:bj .i64 3 w4 w.heap.size (.slice (some ⟨w3.heap.size,0,none⟩) (12+m) (12+m)) (List.replicate (12+m) 0):=by
    rw [ke] at hown;unfold bj;rw [List.length_replicate];exact hown
   have hbb:Below w3.heap.size w3 w4:=(Below.refl _ _).grown hgrow (Nat.le_refl _) (by simp);have hl4:(List.replicate (12+m) (0:Int)).length<=13:=by rw [List.length_replicate];omega
   have hd4:=hd3.lower hbb hd3.lt;have hB4:=hB3.trans (But.of_below hbb);clear hbb hown hgrow hd3 hB3;go_wp2
   go_ret
   exact ⟨_,_,rfl,hl4,ho4,hd4,hB4⟩
 have e0':(n==0)=false:=by simpa using e0
 have e1':(n==1)=false:=by simpa using e1
 go_wp2
 go_ret
 exact ⟨_,_,rfl,by omega,ho2,hd2,hB2⟩
end Go.Proofs.YtejeekndbnpmoaaGreat
