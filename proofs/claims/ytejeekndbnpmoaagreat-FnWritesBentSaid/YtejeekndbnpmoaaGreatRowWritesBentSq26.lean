/-
 The walk of the program's writeCode. Condition: the array weighs at most 2097152, at most 2097152 words.
-/
import Derived.Test.YtejeekndbnpmoaaGreatRowWritesBentSq3
import Derived.Test.YtejeekndbnpmoaaGreatRowWritesBentSq24
import Derived.Test.YtejeekndbnpmoaaGreatRowWritesBentSq9
import Derived.Test.YtejeekndbnpmoaaGreatRowWritesBentSq25
import Derived.Test.YtejeekndbnpmoaaGreatRowWritesBentSq10
import Derived.Test.YtejeekndbnpmoaaGreatRowWritesBentSq11
import Derived.Test.YtejeekndbnpmoaaGreatRowWritesBentSq17
import Derived.Test.YtejeekndbnpmoaaGreatRowWritesBentSq16

set_option maxRecDepth 100000
set_option maxHeartbeats 8000000
set_option linter.unusedSimpArgs false

namespace Go.Proofs.YtejeekndbnpmoaaGreat
open Go.RowKit

theorem pt (w:World) (x:al) (am ad:Option Addr) (nm cm nd cd:Nat) (m:Int):Calls Tryz.prog 264 #[.agg #[.int .i64 x.id,.int .i64 x.n,.int .i64 x.s,.slice am nm cm,.int .i64 x.lost,.int .i64 x.vG,.int .i64 x.seq,.int .i64 x.tail,.int .i64 x.gen,.slice ad nd cd,.int .i64 x.vI,.bool x.down,.bool x.vH],.int .i64 m] w fun e w'=>e=.returned (.agg #[.int .i64 x.id,.int .i64 x.gen,.int .i64 m,.int .i64 x.n,.int .i64 x.s,.int .i64 x.tail,.int .i64 x.lost,.int .i64 x.vG])/\Below w.heap.size w w':=by
 have X:Box ((w.alloc (.cells #[.int .i64 x.id,.int .i64 x.n,.int .i64 x.s,.slice am nm cm,.int .i64 x.lost,.int .i64 x.vG,.int .i64 x.seq,.int .i64 x.tail,.int .i64 x.gen,.slice ad nd cd,.int .i64 x.vI,.bool x.down,.bool x.vH] 29)).alloc (.cells #[.int .i64 0,.int .i64 0,.int .i64 0,.int .i64 0,.int .i64 0,.int .i64 0,.int .i64 0,.int .i64 0] 150)) w.heap.size 29 #[.int .i64 x.id,.int .i64 x.n,.int .i64 x.s,.slice am nm cm,.int .i64 x.lost,.int .i64 x.vG,.int .i64 x.seq,.int .i64 x.tail,.int .i64 x.gen,.slice ad nd cd,.int .i64 x.vI,.bool x.down,.bool x.vH]:=(Box.new w _ _).alloc _;obtain ⟨k0,k1,k2,k3,k4,k5,k6,k7,k8,k9,k10,k11,k12⟩:=X.cells13;clear X;go_enter Tryz.func264,Tryz.ntmps264
 go_wp2
 refine bodyPost_ret (v:=.agg #[.int .i64 x.id,.int .i64 x.gen,.int .i64 m,.int .i64 x.n,.int .i64 x.s,.int .i64 x.tail,.int .i64 x.lost,.int .i64 x.vG]) (by simp [results,Tryz.results264,go_sem]) rfl ?_
 exact ⟨rfl,(ae w _).alloc (by simp) _⟩
theorem nF (w:World) (B p q m:Nat) (hp:Box w p 79 #[.pointer (some ⟨B,0,none⟩)]) (hq:Box w q 3 #[.int .i64 (m:Int)]):nf B [p,q] 262 #[.pointer (some ⟨p,0,none⟩),.pointer (some ⟨q,0,none⟩)] (kz m) w:=by
 intro x ms ds fm fd hA hM hdis hlt;dsimp only [kz] at hlt
 obtain ⟨bm,bd,cm,cd,X,hmm,hdd,hr,r1,r2⟩:=hA;have hm63:=(af hmm.rd).2;obtain ⟨g,rfl⟩:=bU hmm (by omega);have hdj:ms[m]?=some (ms[m]'(by omega)):=List.getElem?_eq_getElem (by omega);generalize ms[m]'(by omega)=d at hdj;have hgm:ms.getD m gZ=d:=eE hdj;obtain ⟨hgl,a0,a1,a3,c0,c1,c3,ss,cs,f,bs,rfl,q0,q1,q2,q3,p0,p1,p3⟩:=dM hmm hdj;have X0:=X;unfold aC at X0;obtain ⟨k0,k1,k2,k3,k4,k5,k6,k7,k8,k9,k10,k11,k12⟩:=X0.cells13;have zp:=hp.lt;have cp:=hp.cell 0;have zq:=hq.lt;have cq:=hq.cell 0;have hwt:=du (hM m _ hdj) f;dsimp only at hwt
 have zB:=X.lt;have XH:=aa X;have MH:=aa hmm;have DH:=aa hdd;have R0:=aa p0;have R1:=aa p1;have R3:=aa p3;have HG:=aa hgm;have hS:w.drew.cell? ⟨p,0,none⟩=some (.pointer (some ⟨B,0,none⟩))/\w.drew.cell? ⟨q,0,none⟩=some (.int .i64 (m:Int))/\w.drew.cell? ⟨B,0,none⟩=some (.int .i64 x.id)/\w.drew.cell? ⟨B,1,none⟩=some (.int .i64 x.n)/\w.drew.cell? ⟨B,2,none⟩=some (.int .i64 x.s)/\w.drew.cell? ⟨B,3,none⟩=some (.slice (some ⟨g,0,none⟩) ms.length cm)/\w.drew.cell? ⟨B,4,none⟩=some (.int .i64 x.lost)/\w.drew.cell? ⟨B,5,none⟩=some (.int .i64 x.vG)/\w.drew.cell? ⟨B,6,none⟩=some (.int .i64 x.seq)/\w.drew.cell? ⟨B,7,none⟩=some (.int .i64 x.tail)/\w.drew.cell? ⟨B,8,none⟩=some (.int .i64 x.gen)/\w.drew.cell? ⟨B,9,none⟩=some (.slice bd ds.length cd)/\w.drew.cell? ⟨B,10,none⟩=some (.int .i64 x.vI)/\w.drew.cell? ⟨B,11,none⟩=some (.bool x.down)/\w.drew.cell? ⟨B,12,none⟩=some (.bool x.vH)/\w.drew.cell? ⟨g,m*4,none⟩=some (.slice a0 ss.length c0)/\w.drew.cell? ⟨g,m*4+1,none⟩=some (.slice a1 cs.length c1)/\w.drew.cell? ⟨g,m*4+2,none⟩=some (.bool f)/\w.drew.cell? ⟨g,m*4+3,none⟩=some (.slice a3 bs.length c3):=⟨cp,cq,k0,k1,k2,k3,k4,k5,k6,k7,k8,k9,k10,k11,k12,q0,q1,q2,q3⟩;have i1:(0:Int)<=(m:Int):=by omega
 have i3:(m:Int)<(ms.length:Int):=by omega
 clear X X0 hmm hdd p0 p1 p3 hM hdj hgm hdis;go_enter Tryz.func262,Tryz.ntmps262
 go_wp2_with fail
 refine ah.start (S:=fun w'=>w'.cell? ⟨p,0,none⟩=some (.pointer (some ⟨B,0,none⟩))/\w'.cell? ⟨q,0,none⟩=some (.int .i64 (m:Int))/\w'.cell? ⟨B,0,none⟩=some (.int .i64 x.id)/\w'.cell? ⟨B,1,none⟩=some (.int .i64 x.n)/\w'.cell? ⟨B,2,none⟩=some (.int .i64 x.s)/\w'.cell? ⟨B,3,none⟩=some (.slice (some ⟨g,0,none⟩) ms.length cm)/\w'.cell? ⟨B,4,none⟩=some (.int .i64 x.lost)/\w'.cell? ⟨B,5,none⟩=some (.int .i64 x.vG)/\w'.cell? ⟨B,6,none⟩=some (.int .i64 x.seq)/\w'.cell? ⟨B,7,none⟩=some (.int .i64 x.tail)/\w'.cell? ⟨B,8,none⟩=some (.int .i64 x.gen)/\w'.cell? ⟨B,9,none⟩=some (.slice bd ds.length cd)/\w'.cell? ⟨B,10,none⟩=some (.int .i64 x.vI)/\w'.cell? ⟨B,11,none⟩=some (.bool x.down)/\w'.cell? ⟨B,12,none⟩=some (.bool x.vH)/\w'.cell? ⟨g,m*4,none⟩=some (.slice a0 ss.length c0)/\w'.cell? ⟨g,m*4+1,none⟩=some (.slice a1 cs.length c1)/\w'.cell? ⟨g,m*4+2,none⟩=some (.bool f)/\w'.cell? ⟨g,m*4+3,none⟩=some (.slice a3 bs.length c3)) (k:=19) (by kernel_rfl) ?_
 refine ah.t 0 hS ?_
 refine ah.t 1 hS ?_
 refine ah.t 2 hS ?_
 refine ah.t 3 hS ?_
 refine ah.t 4 hS ?_
 refine ah.t 5 hS ?_
 refine ah.t 6 hS ?_
 refine ah.t 7 hS ?_
 refine ah.t 8 hS ?_
 refine ah.t 9 hS ?_
 refine ah.t 10 hS ?_
 refine ah.t 11 hS ?_
 refine ah.t 12 hS ?_
 refine ah.t 13 hS ?_
 refine ah.t 14 hS ?_
 refine ah.t 15 hS ?_
 refine ah.one (i:=16) (by kernel_rfl) rfl (fun K hK=>?_)
 go_simp
 refine (pt _ x _ _ _ _ _ _ (m:Int)).mono ?_
 rintro e w1 ⟨rfl,b1'⟩;have b1:Below w.heap.size w w1:=(Below.refl w.heap.size w).drew.trans b1';have hS1:w1.cell? ⟨p,0,none⟩=some (.pointer (some ⟨B,0,none⟩))/\w1.cell? ⟨q,0,none⟩=some (.int .i64 (m:Int))/\w1.cell? ⟨B,0,none⟩=some (.int .i64 x.id)/\w1.cell? ⟨B,1,none⟩=some (.int .i64 x.n)/\w1.cell? ⟨B,2,none⟩=some (.int .i64 x.s)/\w1.cell? ⟨B,3,none⟩=some (.slice (some ⟨g,0,none⟩) ms.length cm)/\w1.cell? ⟨B,4,none⟩=some (.int .i64 x.lost)/\w1.cell? ⟨B,5,none⟩=some (.int .i64 x.vG)/\w1.cell? ⟨B,6,none⟩=some (.int .i64 x.seq)/\w1.cell? ⟨B,7,none⟩=some (.int .i64 x.tail)/\w1.cell? ⟨B,8,none⟩=some (.int .i64 x.gen)/\w1.cell? ⟨B,9,none⟩=some (.slice bd ds.length cd)/\w1.cell? ⟨B,10,none⟩=some (.int .i64 x.vI)/\w1.cell? ⟨B,11,none⟩=some (.bool x.down)/\w1.cell? ⟨B,12,none⟩=some (.bool x.vH)/\w1.cell? ⟨g,m*4,none⟩=some (.slice a0 ss.length c0)/\w1.cell? ⟨g,m*4+1,none⟩=some (.slice a1 cs.length c1)/\w1.cell? ⟨g,m*4+2,none⟩=some (.bool f)/\w1.cell? ⟨g,m*4+3,none⟩=some (.slice a3 bs.length c3):=⟨(b1.cell (p:=⟨p,0,none⟩) zp).trans cp,(b1.cell (p:=⟨q,0,none⟩) zq).trans cq,(b1.cell (p:=⟨B,0,none⟩) zB).trans k0,(b1.cell (p:=⟨B,1,none⟩) zB).trans k1,(b1.cell (p:=⟨B,2,none⟩) zB).trans k2,(b1.cell (p:=⟨B,3,none⟩) zB).trans k3,(b1.cell (p:=⟨B,4,none⟩) zB).trans k4,(b1.cell (p:=⟨B,5,none⟩) zB).trans k5,(b1.cell (p:=⟨B,6,none⟩) zB).trans k6,(b1.cell (p:=⟨B,7,none⟩) zB).trans k7,(b1.cell (p:=⟨B,8,none⟩) zB).trans k8,(b1.cell (p:=⟨B,9,none⟩) zB).trans k9,(b1.cell (p:=⟨B,10,none⟩) zB).trans k10,(b1.cell (p:=⟨B,11,none⟩) zB).trans k11,(b1.cell (p:=⟨B,12,none⟩) zB).trans k12,(b1.cell (p:=⟨g,m*4,none⟩) hgl).trans q0,(b1.cell (p:=⟨g,m*4+1,none⟩) hgl).trans q1,(b1.cell (p:=⟨g,m*4+2,none⟩) hgl).trans q2,(b1.cell (p:=⟨g,m*4+3,none⟩) hgl).trans q3⟩;have zb1:=b1.size;have B1:=aa b1;clear b1 b1';go_wp2_with fail
 refine hK.out _ _ (fun _=>hS1) ?_
 clear hK K;refine ah.one (i:=17) (by kernel_rfl) rfl (fun K hK=>?_)
 go_simp
 refine (jy _ 171 _ _ _ _ _ _ _ _ _ ss cs f bs (gx x m) (R0.out.below B1.out) (R1.out.below B1.out) (R3.out.below B1.out) (by omega)).mono ?_
 rintro e w2 ⟨u0,u1,u3,rfl,o2,b2'⟩;have b2:Below w.heap.size w w2:=Below.andThen B1.out b2';have o2b:(bR 171).Own w2 w.heap.size w2.heap.size [u0,u1,.bool f,u3] _:=o2.widen zb1 (Nat.le_refl _);obtain ⟨d0,l0,f0,d1,l1,f1,d3,l3,f3,hv0,hv1,hv3⟩:=bS o2b;subst hv0 hv1 hv3;obtain ⟨fpx,mx,rx⟩:=o2b.mine;obtain ⟨cOld,fz,hgm,fm9,hA9,hMv9⟩:=eu (m:=m) XH.out MH.out DH.out hr r1 r2 b2 (by omega) mx (fun b hb=>(rx b hb).1);obtain ⟨o0,t0⟩:=cOld 0 (by omega);obtain ⟨o1,t1⟩:=cOld 1 (by omega);obtain ⟨o2',t2⟩:=cOld 2 (by omega);obtain ⟨o3,t3⟩:=cOld 3 (by omega);rw [Nat.add_zero] at t0;have HA:=aa hA9;have HMV:=aa hMv9;have hS2:w2.cell? ⟨p,0,none⟩=some (.pointer (some ⟨B,0,none⟩))/\w2.cell? ⟨q,0,none⟩=some (.int .i64 (m:Int))/\w2.cell? ⟨B,0,none⟩=some (.int .i64 x.id)/\w2.cell? ⟨B,1,none⟩=some (.int .i64 x.n)/\w2.cell? ⟨B,2,none⟩=some (.int .i64 x.s)/\w2.cell? ⟨B,3,none⟩=some (.slice (some ⟨g,0,none⟩) ms.length cm)/\w2.cell? ⟨B,4,none⟩=some (.int .i64 x.lost)/\w2.cell? ⟨B,5,none⟩=some (.int .i64 x.vG)/\w2.cell? ⟨B,6,none⟩=some (.int .i64 x.seq)/\w2.cell? ⟨B,7,none⟩=some (.int .i64 x.tail)/\w2.cell? ⟨B,8,none⟩=some (.int .i64 x.gen)/\w2.cell? ⟨B,9,none⟩=some (.slice bd ds.length cd)/\w2.cell? ⟨B,10,none⟩=some (.int .i64 x.vI)/\w2.cell? ⟨B,11,none⟩=some (.bool x.down)/\w2.cell? ⟨B,12,none⟩=some (.bool x.vH)/\w2.cell? ⟨g,m*4,none⟩=some (.slice a0 ss.length c0)/\w2.cell? ⟨g,m*4+1,none⟩=some (.slice a1 cs.length c1)/\w2.cell? ⟨g,m*4+2,none⟩=some (.bool f)/\w2.cell? ⟨g,m*4+3,none⟩=some (.slice a3 bs.length c3):=⟨(b2.cell (p:=⟨p,0,none⟩) zp).trans cp,(b2.cell (p:=⟨q,0,none⟩) zq).trans cq,(b2.cell (p:=⟨B,0,none⟩) zB).trans k0,(b2.cell (p:=⟨B,1,none⟩) zB).trans k1,(b2.cell (p:=⟨B,2,none⟩) zB).trans k2,(b2.cell (p:=⟨B,3,none⟩) zB).trans k3,(b2.cell (p:=⟨B,4,none⟩) zB).trans k4,(b2.cell (p:=⟨B,5,none⟩) zB).trans k5,(b2.cell (p:=⟨B,6,none⟩) zB).trans k6,(b2.cell (p:=⟨B,7,none⟩) zB).trans k7,(b2.cell (p:=⟨B,8,none⟩) zB).trans k8,(b2.cell (p:=⟨B,9,none⟩) zB).trans k9,(b2.cell (p:=⟨B,10,none⟩) zB).trans k10,(b2.cell (p:=⟨B,11,none⟩) zB).trans k11,(b2.cell (p:=⟨B,12,none⟩) zB).trans k12,(b2.cell (p:=⟨g,m*4,none⟩) hgl).trans q0,(b2.cell (p:=⟨g,m*4+1,none⟩) hgl).trans q1,(b2.cell (p:=⟨g,m*4+2,none⟩) hgl).trans q2,(b2.cell (p:=⟨g,m*4+3,none⟩) hgl).trans q3⟩;have gB:¬g=B:=fun e=>r1 (e▸hgm);unfold fi at HA HMV;clear cp cq k0 k1 k2 k3 k4 k5 k6 k7 k8 k9 k10 k11 k12 q0 q1 q2 q3 o2 o2b b2 b2' mx rx cOld hA9 hMv9 XH MH DH R0 R1 R3 hwt hS1 B1;go_wp2_with fail
 refine hK.out _ _ (fun _=>hS2) ?_
 clear hK K;refine ah.t 18 hS2 ?_
 refine ah.one (i:=19) (by kernel_rfl) rfl (fun K hK=>?_)
 go_simp
 refine hK.out _ _ (fun h=>absurd rfl h) ?_
 clear hK K;refine ah.done (by kernel_rfl) ?_ _
 clear hS hS2 t0 t1 t2 t3 fz;go_wp2
 refine bodyPost_end (v:=.tuple #[]) (results_none rfl _ _ _) rfl ?_
 refine ⟨rfl,fm9,?_,HMV.out⟩
 show aD _ B x (ms.set m (opF (kz m) x (ms.getD m gZ))) ds fm9 fd
 rw [HG.out];exact HA.out
theorem qE (w:World) (B m:Nat):Calls Tryz.prog 229 #[.pointer (some ⟨B,0,none⟩),.int .i64 (m:Int)] w fun e w'=>∃v,e=.returned v/\(jI B).Own w' w.heap.size w'.heap.size [v] (kz m)/\Below w.heap.size w w':=by
 have hmf:∀(fn:Fn) (first cap:Array Value) (w:World),(Instr.makeFunc fn first cap).run Tryz.prog w=.ok (.func fn first cap) w:=fun _ _ _ _=>rfl;have hb:Below w.heap.size w ((w.alloc (.cells #[.pointer (some ⟨B,0,none⟩)] 79)).alloc (.cells #[.int .i64 (m:Int)] 3)):=((Below.refl _ _).alloc (Nat.le_refl _) _).alloc (by simp) _;have b0:Box ((w.alloc (.cells #[.pointer (some ⟨B,0,none⟩)] 79)).alloc (.cells #[.int .i64 (m:Int)] 3)) w.heap.size 79 #[.pointer (some ⟨B,0,none⟩)]:=(Box.new w _ _).alloc _;have b1:=Box.new (w.alloc (.cells #[.pointer (some ⟨B,0,none⟩)] 79)) 3 #[.int .i64 (m:Int)];rw [World.size_alloc] at b1;have hsz:((w.alloc (.cells #[.pointer (some ⟨B,0,none⟩)] 79)).alloc (.cells #[.int .i64 (m:Int)] 3)).heap.size=w.heap.size+1+1:=by simp
 have HO:Hid ((jI B).Own ((w.alloc (.cells #[.pointer (some ⟨B,0,none⟩)] 79)).alloc (.cells #[.int .i64 (m:Int)] 3)) w.heap.size ((w.alloc (.cells #[.pointer (some ⟨B,0,none⟩)] 79)).alloc (.cells #[.int .i64 (m:Int)] 3)).heap.size [.func (Fn.func 262) #[] #[.pointer (some ⟨w.heap.size,0,none⟩),.pointer (some ⟨w.heap.size+1,0,none⟩)]] (kz m)):=by
  refine ⟨[w.heap.size,w.heap.size+1],⟨262,_,rfl,?_,?_,fun w' hk hs=>?_⟩,?_,?_⟩
  . exact dz Tryz.func262 (by kernel_rfl) (by kernel_rfl) _
  . intro b hb';simp at hb';omega
  . exact nF w' B _ _ m (b0.kept (hk _ (by simp))) (b1.kept (hk _ (by simp)))
  . simp
  intro b hb';simp at hb';omega
 have HB:=aa hb;clear hb b0 b1 hsz;go_enter Tryz.func229,Tryz.ntmps229
 go_wp2
 go_ret
 exact ⟨_,rfl,HO.out,HB.out⟩
theorem kP (w:World) (B p m:Nat) (hp:Box w p 79 #[.pointer (some ⟨B,0,none⟩)]):Calls Tryz.prog 228 #[.int .i64 (m:Int),.pointer (some ⟨p,0,none⟩)] w fun e w'=>∃v,e=.returned v/\(jI B).Own w' w.heap.size w'.heap.size [v] (kz m)/\Below w.heap.size w w':=by
 have c0:w.cell? ⟨p,0,none⟩=some (.pointer (some ⟨B,0,none⟩)):=hp.cell 0;go_enter Tryz.func228,Tryz.ntmps228
 go_wp2_with fail
 refine (qE _ B m).mono ?_
 rintro e w1 ⟨v,rfl,ov,b1⟩;have OV:=aa ov;have B1:=aa b1;clear ov b1;go_wp2
 go_ret
 exact ⟨_,rfl,OV.out,B1.out⟩
theorem lA (w:World) (B:Nat) (x:al) (ms:List ai) (ds:List (Int×List Int)) (fm fd:List Nat) (h:aD w B x ms ds fm fd) (hl:ms.length<=2097152):Calls Tryz.prog 180 #[.pointer (some ⟨B,0,none⟩)] w fun e w'=>∃bo co,e=.returned (.slice bo (dh kz ms ms.length).length co)/\(pq B).Own w' w.heap.size w'.heap.size [.slice bo (dh kz ms ms.length).length co] (dh kz ms ms.length)/\Below w.heap.size w w':=by
 have hmf:∀(fn:Fn) (first cap:Array Value) (w:World),(Instr.makeFunc fn first cap).run Tryz.prog w=.ok (.func fn first cap) w:=fun _ _ _ _=>rfl;have bA:=ae w (.cells #[.pointer (some ⟨B,0,none⟩)] 79);have bx:=Box.new w 79 #[.pointer (some ⟨B,0,none⟩)];have HA:=aa (h.alloc (.cells #[.pointer (some ⟨B,0,none⟩)] 79));have hlt:=bx.lt;clear h;go_enter Tryz.func180,Tryz.ntmps180
 go_wp2_with fail
 refine (kO _ B x ms ds fm fd HA.out hl kz 228 #[.pointer (some ⟨w.heap.size,0,none⟩)] (fun m=>dz Tryz.func228 (by kernel_rfl) (by kernel_rfl) _) (fun m w' hm hb=>?_)).mono ?_
 . exact kP w' B _ m (bx.below hb hlt)
 rintro e w1 ⟨bo,co,rfl,oo,b1⟩;have OO:=aa (oo.widen (lo':=w.heap.size) (hi':=w1.heap.size) (by simp) (Nat.le_refl _));have B1:=aa (Below.andThen bA b1);clear oo b1 bA bx;go_wp2
 go_ret
 exact ⟨_,_,rfl,OO.out,B1.out⟩
theorem rZ {w:World} {B:Nat} {x:al} {ms:List ai} {ds:List (Int×List Int)} {fm fd:List Nat} (h:aD w B x ms ds fm fd):aD (w.setCell ⟨B,8,none⟩ (.int .i64 (x.gen+1))) B {x with gen:=x.gen+1} ms ds fm fd:=by
 obtain ⟨bm,bd,cm,cd,X,hm,hd,hr,r1,r2⟩:=h;exact ⟨bm,bd,cm,cd,X.set 8 _,hm.setCell r1 _,hd.setCell r2 _,hr,r1,r2⟩
theorem uW {w:World} {B:Nat} {x:al} {ms:List ai} {ds:List (Int×List Int)} {fm fd:List Nat} (h:aD w B x ms ds fm fd):aD (w.setCell ⟨B,7,none⟩ (.int .i64 x.seq)) B {x with tail:=x.seq} ms ds fm fd:=by
 obtain ⟨bm,bd,cm,cd,X,hm,hd,hr,r1,r2⟩:=h;exact ⟨bm,bd,cm,cd,X.set 7 _,hm.setCell r1 _,hd.setCell r2 _,hr,r1,r2⟩
def pu (x:al) (n:Nat):Prop:=∀i:Nat,i<n->eA (gx x i)=true
theorem sH {x:al} {ms:List ai} {ds:List (Int×List Int)} (h:aZ x ms ds=true) (hg:x.gen<60000) (t:Int) (ht:t=x.tail∨t=x.seq):pu {x with gen:=x.gen+1,tail:=t} ms.length:=by
 intro i hi;have hl:=eg h;unfold aZ dq dB at h;simp only [Bool.and_eq_true,aB,aI,decide_eq_true_eq,Bool.or_eq_true,Bool.not_eq_true',decide_eq_false_iff_not] at h
 obtain ⟨hgeo,hid,_,_,⟨hlo,hbu,hlb⟩,htl,hsq,_,hgen,_⟩:=h;rw [eB];unfold gx;dsimp only
 refine ⟨hgeo,?_,⟨by omega,by omega⟩,hid,⟨by omega,by omega⟩,⟨by rcases ht with rfl|rfl<;>omega,by rcases ht with rfl|rfl<;>omega⟩⟩
 by_cases e:x.lost=-1
 . exact .inl ⟨e,hlb.resolve_left (fun h=>h e)⟩
 exact .inr ⟨e,by omega,hlo.2,hbu.1,hbu.2⟩
theorem uX {x:al} {ms:List ai} (hM:bM ms) (hf:x.vI<=1000) (hu:pu {x with gen:=x.gen+1} ms.length):dx ({x with gen:=x.gen+1},ms) (dh kz ms ms.length)=dl ({x with gen:=x.gen+1},ms) ms.length:=
 pO (q:=({x with gen:=x.gen+1},ms)) hM hf hu ms.length (Nat.le_refl _)
theorem jJ {q:al×List ai} (h:q.1.down=true):∀j,aS q j=q
 | 0=>rfl
 | j+1=>by rw [io,jJ h j,pN _ _ h]
theorem oM (w:World) (B:Nat) (x:al) (ms:List ai) (ds:List (Int×List Int)) (fm fd:List Nat) (h:aD w B x ms ds fm fd) (hf:x.vI<=1000) (hdn:x.down=false) (hM:bM ms) (hl:ms.length<=2097152) (hg0:0<=x.gen) (hg:x.gen<60000) (hu:pu {x with gen:=x.gen+1} ms.length):Calls Tryz.prog 102 #[.pointer (some ⟨B,0,none⟩)] w (Did w B fm ds fd (cK (x,ms))):=by
 have k8:w.cell? ⟨B,8,none⟩=some (.int .i64 x.gen):=by
  obtain ⟨bm,bd,cm,cd,X,_⟩:=h;unfold aC at X;exact X.cells13.2.2.2.2.2.2.2.2.1
 have fz:∀j,w.frozen? ⟨B,j,none⟩=false:=by
  obtain ⟨bm,bd,cm,cd,X,_⟩:=h;exact X.frozen
 have hw1:IntKind.i64.wrap (x.gen+1)=x.gen+1:=IntWalk.i64_in _ (by omega);have HA:=aa (rZ h);have MS:=aa (aJ.set (B:=B) (j:=8) (fm:=fm) (w:=w) (.int .i64 (x.gen+1)));have HR:=aa (uX hM hf hu);have HF:Hid (x.vI<=1000/\x.down=false):=⟨hf,hdn⟩;have HMK:Hid (cK (x,ms)=aS (dl ({x with gen:=x.gen+1},ms) ms.length) ms.length):=rfl;have HK:=aa (ew (q:=({x with gen:=x.gen+1},ms)) hM hf ms.length);have hlB:=HA.out.lt;have hlm:=HA.out.ltm.1;clear h hf hdn hg0 hg hu;go_enter Tryz.func102,Tryz.ntmps102
 go_wp2_with fail
 clear k8 fz;generalize w.setCell ⟨B,8,none⟩ (.int .i64 (x.gen+1))=w0 at HA MS hlB hlm ⊢;refine (lA _ B {x with gen:=x.gen+1} ms ds fm fd HA.out hl).mono ?_
 rintro e w1 ⟨bo,co,rfl,oo,b1⟩;obtain ⟨fo,mo,ro⟩:=oo.mine;have HP:=aa (fv w1 B {x with gen:=x.gen+1} ms ds fm fd (HA.out.below b1) HF.out.1 HF.out.2 hM bo co (dh kz ms ms.length) fo mo (fun b hb=>⟨fun e=>by have:=(ro b hb).1;omega,fun hm=>by have h1:=(ro b hb).1;have h2:=hlm b hm;omega⟩) (fun o ho=>by
  obtain ⟨i,hi,hfl,rfl⟩:=lT ho;exact ⟨hi,hfl⟩))
 have MB:=aa (MS.out.below b1);clear oo mo ro b1 hlm HA MS;go_wp2_with fail
 refine HP.out.mono ?_
 rintro e w2 hd;rw [HR.out] at hd;obtain ⟨he,fm2,hA2,hMv2⟩:=hd;have MV2:=aa (MB.out.trans hMv2);obtain ⟨kM,kS,kL⟩:=HK.out;clear hMv2 HR HP HK MB;generalize dl ({x with gen:=x.gen+1},ms) ms.length=st at he hA2 HMK kM kS kL;obtain ⟨y,ns⟩:=st;dsimp only at he hA2 kM kS kL
 have hfy:=kS.2.2.2.2.2.2.2.2.2.1;unfold cB at he;cases hst:y.down
 . rw [if_neg (by simp [hst])] at he
   subst he;have HS:=aa (eZ w2 B y ns ds fm2 fd hA2 hfy hst kM (by omega));rw [kL] at HS;clear hst hA2;go_wp2_with fail
   refine HS.out.mono ?_
   rintro e w3 ⟨he,fm3,hA3,hMv3⟩;have HD:Hid (Did w B fm ds fd (cK (x,ms)) e w3):=by
    unfold Hid;rw [HMK.out];exact ⟨he,fm3,hA3,MV2.out.trans hMv3⟩
   unfold cB at he;clear hA3 hMv3;cases hst:(aS (y,ns) ms.length).1.down
   . rw [if_neg (by simp [hst])] at he
     subst he;clear hst;go_wp2
     refine bodyPost_end (v:=.tuple #[]) (results_none rfl _ _ _) rfl ?_
     exact HD.out
   rw [if_pos hst] at he;subst he;clear hst;go_wp2
   exact ⟨rfl,HD.out⟩
 rw [if_pos hst] at he;subst he;have HD:Hid (Did w B fm ds fd (cK (x,ms)) (.panicked je) w2):=by
  unfold Hid;rw [HMK.out,jJ hst];exact ⟨cB.gone hst,fm2,hA2,MV2.out⟩
 clear hst hA2;go_wp2
 exact ⟨rfl,HD.out⟩
theorem nG (w:World) (B:Nat) (x:al) (ms:List ai) (ds:List (Int×List Int)) (fm fd:List Nat) (h:aD w B x ms ds fm fd) (ha:aZ x ms ds=true) (hdn:x.down=false) (hg:x.gen<60000):Calls Tryz.prog 102 #[.pointer (some ⟨B,0,none⟩)] w (Did w B fm ds fd (cK (x,ms))):=by
 obtain ⟨fc,mk,gc0,gc1⟩:=cH ha;have hl:=eg ha;exact oM w B x ms ds fm fd h fc hdn mk (by omega) gc0 hg (sH ha hg x.tail (.inl rfl))
theorem jg (w:World) (B:Nat) (x:al) (ms:List ai) (ds:List (Int×List Int)) (fm fd:List Nat) (h:aD w B x ms ds fm fd) (ha:aZ x ms ds=true) (hdn:x.down=false) (hg:x.gen<60000):Calls Tryz.prog 104 #[.pointer (some ⟨B,0,none⟩)] w (Did w B fm ds fd (bD (x,ms))):=by
 obtain ⟨fc,mk,gc0,gc1⟩:=cH ha;have hl:=eg ha;have HU:=aa (sH ha hg x.seq (.inr rfl));have HC:Hid (bD (x,ms)=if (aS (x,ms) ms.length).1.down=true then aS (x,ms) ms.length else cK ({(aS (x,ms) ms.length).1 with tail:=(aS (x,ms) ms.length).1.seq},(aS (x,ms) ms.length).2)):=rfl;have HK:=aa (dm (q:=(x,ms)) mk fc ms.length);have HS:=aa (eZ w B x ms ds fm fd h fc hdn mk (by omega));clear h hdn;go_enter Tryz.func104,Tryz.ntmps104
 go_wp2_with fail
 refine HS.out.mono ?_
 rintro e w1 ⟨he,fm1,hA1,hMv1⟩;have MV:=aa hMv1;obtain ⟨kM,kS,kL⟩:=HK.out;clear HS HK hMv1;generalize aS (x,ms) ms.length=st at he hA1 HC kM kS kL;obtain ⟨y,ns⟩:=st;dsimp only at he hA1 kM kS kL HC
 unfold cB at he;cases hst:y.down
 . rw [if_neg (by simp [hst])] at he
   subst he;obtain ⟨s1,s2,s3,s4,s5,s6,s7,s8,s9,s10,s11⟩:=kS;have HV:Hid (bD (x,ms)=cK ({y with tail:=y.seq},ns)):=by unfold Hid;rw [HC.out,if_neg (by simp [hst])]
   have HU2:Hid (pu {({y with tail:=y.seq}:al) with gen:=y.gen+1} ns.length):=by
    intro i hi;have:=HU.out i (by omega);unfold gx at this ⊢;dsimp only at this ⊢
    rw [s1,s2,s3,s4,s5,s6,s8];exact this
   have c6:w1.cell? ⟨B,6,none⟩=some (.int .i64 y.seq):=by
    obtain ⟨bm,bd,cm,cd,X,_⟩:=hA1;unfold aC at X;exact X.cells13.2.2.2.2.2.2.1
   have c7:w1.cell? ⟨B,7,none⟩=some (.int .i64 y.tail):=by
    obtain ⟨bm,bd,cm,cd,X,_⟩:=hA1;unfold aC at X;exact X.cells13.2.2.2.2.2.2.2.1
   have fz:∀j,w1.frozen? ⟨B,j,none⟩=false:=by
    obtain ⟨bm,bd,cm,cd,X,_⟩:=hA1;exact X.frozen
   have MV2:=aa (MV.out.trans (aJ.set (B:=B) (j:=7) (fm:=fm1) (w:=w1) (.int .i64 y.seq)));have HM:=aa (oM _ B {y with tail:=y.seq} ns ds fm1 fd (uW hA1) s10 hst kM (by omega) (by dsimp only;omega) (by dsimp only;omega) HU2.out);clear hA1 hst HC HU HU2 s1 s2 s3 s4 s5 s6 s7 s8 s9 s10 s11;go_wp2_with fail
   refine HM.out.mono ?_
   rintro e w3 ⟨he,fm3,hA3,hMv3⟩;have HD:Hid (Did w B fm ds fd (bD (x,ms)) e w3):=by
    unfold Hid;rw [HV.out];exact ⟨he,fm3,hA3,MV2.out.trans hMv3⟩
   unfold cB at he;clear hA3 hMv3 HM MV2;generalize cK ({y with tail:=y.seq},ns)=st at he HV;cases hst:st.1.down
   . rw [if_neg (by simp [hst])] at he
     subst he;clear hst;go_wp2
     refine bodyPost_end (v:=.tuple #[]) (results_none rfl _ _ _) rfl ?_
     exact HD.out
   rw [if_pos hst] at he;subst he;clear hst;go_wp2
   exact ⟨rfl,HD.out⟩
 rw [if_pos hst] at he;subst he;have HD:Hid (Did w B fm ds fd (bD (x,ms)) (.panicked je) w1):=by
  unfold Hid;rw [HC.out,if_pos hst];exact ⟨cB.gone hst,fm1,hA1,MV.out⟩
 clear hst hA1;go_wp2
 exact ⟨rfl,HD.out⟩
theorem ig (w:World) (B:Nat) (x:al) (ms:List ai) (ds:List (Int×List Int)) (fm fd:List Nat) (h:aD w B x ms ds fm fd) (kf:x.vI<=1000) (hyd:x.down=false) (kM:bM ms) (hn5:ms.length<=5) (q s:Int) (ar:Option Addr) (cr:Nat) (zs:List Int) (h5:aA.Rd w [.slice ar zs.length cr] zs) (hz4:zs.length<=4):
 Calls Tryz.prog 166 #[.pointer (some ⟨B,0,none⟩),.agg #[.int .i64 q,.int .i64 s,.slice ar zs.length cr]] w (Did w B fm ds fd (aS (dp (x,ms) (cD q) (ep q s zs) ms.length) ms.length)):=by
 have nb:=ae w (.cells #[.int .i64 q,.int .i64 s,.slice ar zs.length cr] 140);have XR:=Box.new w 140 #[.int .i64 q,.int .i64 s,.slice ar zs.length cr];obtain ⟨k0,k1,k2⟩:=XR.cells3;have HA1:=aa (h.below nb);have H5a:=aa (h5.below nb);have MV:=aa ((aJ.refl B fm w).below nb);clear XR nb h h5;go_enter Tryz.func166,Tryz.ntmps166
 go_wp2_with fail
 generalize w.alloc (.cells #[.int .i64 q,.int .i64 s,.slice ar zs.length cr] 140)=w1 at HA1 H5a MV k0 k1 k2 ⊢;have zw:=HA1.out.lt;have zfm:=HA1.out.ltm.1;refine (nD _ B x ms ds fm fd HA1.out (by omega) q s ar cr zs H5a.out (by omega)).mono ?_
 rintro e w2 ⟨bo,co,rfl,oo,b2⟩;obtain ⟨fo,mo,ro⟩:=oo.mine;have HP:=aa (fv w2 B x ms ds fm fd (HA1.out.below b2) kf hyd kM bo co (dh (wrK (cD q) (ep q s zs)) ms ms.length) fo mo (fun b hb=>⟨fun e=>by have:=(ro b hb).1;omega,fun hm=>by have h1:=(ro b hb).1;have h2:=zfm b hm;omega⟩) (fun o ho=>by
  obtain ⟨i,hi,hfl,rfl⟩:=lT ho;exact ⟨hi,hfl⟩))
 have HRR:Hid (dx (x,ms) (dh (wrK (cD q) (ep q s zs)) ms ms.length)=dp (x,ms) (cD q) (ep q s zs) ms.length):=ul (x,ms) _ _ _;have FR:=aa (pU (q:=(x,ms)) kM kf (cD q) (ep q s zs) ms.length);have MV2:=aa (MV.out.below b2);clear oo mo ro b2 k0 k1 k2 HA1 zfm kM kf;go_wp2_with fail
 refine HP.out.mono ?_
 rintro e w3 hd;rw [HRR.out] at hd;obtain ⟨he,fm3,hA3,hMv3⟩:=hd;have MV3:=aa (MV2.out.trans hMv3);clear HP HRR MV2 hMv3;generalize hst0:dp (x,ms) (cD q) (ep q s zs) ms.length=st at he hA3 FR;have HE:=aa hst0;clear hst0;obtain ⟨v,os⟩:=st;dsimp only at he hA3
 obtain ⟨rM,rL,_,_,_,rf⟩:=FR.out;dsimp only at rM rL rf
 have HOL:=aa rL;unfold cB at he;cases hvd:v.down
 . rw [if_neg (by simp [hvd])] at he
   subst he;have HSY:=aa (eZ w3 B v os ds fm3 fd hA3 rf hvd rM (by omega));rw [HOL.out] at HSY;clear hvd hA3 rM rL rf FR;go_wp2_with fail
   refine HSY.out.mono ?_
   rintro e w4 ⟨he,fm4,hA4,hMv4⟩;have HDD:Hid (Did w B fm ds fd (aS (dp (x,ms) (cD q) (ep q s zs) ms.length) ms.length) e w4):=by unfold Hid;rw [HE.out];exact ⟨he,fm4,hA4,MV3.out.trans hMv4⟩
   clear HSY MV3 hMv4 hA4;generalize aS (v,os) ms.length=st at he;unfold cB at he;cases hst:st.1.down
   . rw [if_neg (by simp [hst])] at he
     subst he;clear hst;go_wp2
     refine bodyPost_end (v:=.tuple #[]) (results_none rfl _ _ _) rfl ?_
     exact HDD.out
   rw [if_pos hst] at he;subst he;clear hst;go_wp2
   exact ⟨rfl,HDD.out⟩
 rw [if_pos hvd] at he;subst he;have HDD:Hid (Did w B fm ds fd (aS (dp (x,ms) (cD q) (ep q s zs) ms.length) ms.length) (.panicked je) w3):=by unfold Hid;rw [HE.out,jJ hvd];exact ⟨cB.gone hvd,fm3,hA3,MV3.out⟩
 clear hvd hA3;go_wp2
 exact ⟨rfl,by first|exact HDD.out|(have h:=HDD.out;rw [HE.out] at h;exact h)⟩
theorem uY {ps ms:List ai} {ds:List (Int×List Int)} (h:bM ps) (hl:ps.length<=5) (hw:aM ms ds<=2000000):aM ps ds<=2097152:=by
 have h2:=jP h hl;unfold aM at hw ⊢;omega
theorem sI {w:World} {B:Nat} {x:al} {ms:List ai} {ds:List (Int×List Int)} {fm fd:List Nat} (h:aD w B x ms ds fm fd):aD (w.setCell ⟨B,6,none⟩ (.int .i64 (x.seq+1))) B {x with seq:=x.seq+1} ms ds fm fd:=by
 obtain ⟨bm,bd,cm,cd,X,hm,hd,hr,r1,r2⟩:=h;exact ⟨bm,bd,cm,cd,X.set 6 _,hm.setCell r1 _,hd.setCell r2 _,hr,r1,r2⟩
theorem kc {w:World} {B:Nat} {x:al} {ms:List ai} {ds:List (Int×List Int)} {fm fd:List Nat} (h:aD w B x ms ds fm fd):w.cell? ⟨B,6,none⟩=some (.int .i64 x.seq)/\∀j,w.frozen? ⟨B,j,none⟩=false:=by
 obtain ⟨bm,bd,cm,cd,X,_⟩:=h;exact ⟨by unfold aC at X;exact X.cells13.2.2.2.2.2.2.1,X.frozen⟩
theorem nH (w:World) (x:al) (am ad:Option Addr) (nm cm nd cd:Nat) (hq:-100000<=x.seq/\x.seq<=100000) (ht:-100000<=x.tail/\x.tail<=100000):Calls Tryz.prog 165 #[.agg #[.int .i64 x.id,.int .i64 x.n,.int .i64 x.s,.slice am nm cm,.int .i64 x.lost,.int .i64 x.vG,.int .i64 x.seq,.int .i64 x.tail,.int .i64 x.gen,.slice ad nd cd,.int .i64 x.vI,.bool x.down,.bool x.vH]] w fun e w'=>e=.returned (.bool (decide (x.seq-x.tail=4)))/\Below w.heap.size w w':=by
 have hw:IntKind.i64.wrap (x.seq-x.tail)=x.seq-x.tail:=IntWalk.i64_in _ (by omega);have X:=Box.new w 29 #[.int .i64 x.id,.int .i64 x.n,.int .i64 x.s,.slice am nm cm,.int .i64 x.lost,.int .i64 x.vG,.int .i64 x.seq,.int .i64 x.tail,.int .i64 x.gen,.slice ad nd cd,.int .i64 x.vI,.bool x.down,.bool x.vH];obtain ⟨k0,k1,k2,k3,k4,k5,k6,k7,k8,k9,k10,k11,k12⟩:=X.cells13;have HB:=aa (ae w (.cells #[.int .i64 x.id,.int .i64 x.n,.int .i64 x.s,.slice am nm cm,.int .i64 x.lost,.int .i64 x.vG,.int .i64 x.seq,.int .i64 x.tail,.int .i64 x.gen,.slice ad nd cd,.int .i64 x.vI,.bool x.down,.bool x.vH] 29));clear X;go_enter Tryz.func165,Tryz.ntmps165
 go_wp2
 go_ret
 exact ⟨ag (by by_cases h:x.seq-x.tail=4<;>simp [h]),HB.out⟩
theorem nI (w:World) (B:Nat) (x:al) (ms:List ai) (ds:List (Int×List Int)) (fm fd:List Nat) (h:aD w B x ms ds fm fd) (ha:aZ x ms ds=true) (hdn:x.down=false) (hgn:x.gen<60000) (hsq:¬x.seq=60000) (s:Int) (hs:inB s 0 (x.s-1)=true) (ar:Option Addr) (cr:Nat) (zs:List Int) (fr:List Nat) (h5:aA.Mine w [.slice ar zs.length cr] zs fr) (h5d:∀b∈fr,b≠B/\b∉fm) (hz:(zs.length:Int)=x.n-1) (hwt:aM ms ds<=2000000):Calls Tryz.prog 93 #[.pointer (some ⟨B,0,none⟩),.int .i64 s,.slice ar zs.length cr] w (Did w B fm ds fd (aH (x,ms) s zs)):=by
 obtain ⟨fc,mk,gc0,gc1⟩:=cH ha;have hln:=eg ha;have hrg:0<=x.tail/\x.tail<=x.seq/\x.seq<=60000/\x.seq<=x.tail+4/\bF x.n x.s=true:=by
  unfold aZ dB at ha;simp only [Bool.and_eq_true,aI,decide_eq_true_eq] at ha
  obtain ⟨hgeo,_,_,_,_,htl,hsq2,hst,_⟩:=ha;exact ⟨htl.1,hsq2.1,hsq2.2,hst,hgeo⟩
 obtain ⟨t0,t1,t2,t3,hgeo⟩:=hrg;have FT1:=aa (oZ (q:=(x,ms)) mk fc);have hlB:=h.lt;have hlm:=h.ltm.1;have hl5:=h5.lt;have hz4:zs.length<=4:=by omega
 have hn5:ms.length<=5:=by omega
 have HLN:Hid ((ms.length:Int)=x.n/\(zs.length:Int)=x.n-1):=⟨hln.2.2,hz⟩;have HG:=aa hgeo;have H5:=aa h5;have HD5:=aa h5d;have HS:=aa hs;have HA0:=aa h;have HC0:Hid (∀w0,Below w.heap.size w w0->x.down=false->Calls Tryz.prog 104 #[.pointer (some ⟨B,0,none⟩)] w0 (Did w0 B fm ds fd (bD (x,ms)))):=fun w0 hb hh=>jg w0 B x ms ds fm fd (h.below hb) ha hh hgn;have HDN:=aa hdn;have hwm:bh ds<=2000000∨True:=.inr trivial;have HWT:=aa hwt;obtain ⟨bm,bd,cm,cd,X,hmm,hdd,hr,r1,r2⟩:=h;unfold aC at X;obtain ⟨k0,k1,k2,k3,k4,k5,k6,k7,k8,k9,k10,k11,k12⟩:=X.cells13;have HSQ:Hid (0<=x.seq/\x.seq<60000):=⟨by omega,by omega⟩;clear X hmm hdd hr r1 r2 h5 h5d hs hz hln hgeo hgn hdn ha hwm hwt;go_enter Tryz.func93,Tryz.ntmps93
 go_wp2_with fail
 refine (nH _ x _ _ _ _ _ _ ⟨by omega,by omega⟩ ⟨by omega,by omega⟩).mono ?_
 rintro e w0 ⟨rfl,b0⟩;have MV0:=aa ((aJ.refl B fm w).below b0);have z0:=b0.size;have HA1:=aa (HA0.out.below b0);clear k0 k1 k2 k3 k4 k5 k6 k7 k8 k9 k10 k11 k12;by_cases hfull:x.seq-x.tail=4
 . have HW1:Hid (wr1 (x,ms)=bD (x,ms)):=by unfold Hid wr1;rw [if_pos (by dsimp only;omega)]
   rw [decide_eq_true hfull];clear hfull;rw [HW1.out] at FT1;go_wp2_with fail
   refine (HC0.out w0 b0 HDN.out).mono ?_
   rintro e w1 ⟨he,fm1,hA1,hMv1⟩;have MV:=aa (MV0.out.trans hMv1);have HWA:Hid (aH (x,ms) s zs=if (bD (x,ms)).1.down=true then bD (x,ms) else mt (bD (x,ms)) s zs):=by unfold Hid aH;rw [HW1.out]
   clear HW1 hMv1 HC0 HA1 b0;generalize bD (x,ms)=st at he hA1 HWA FT1;obtain ⟨y,ns⟩:=st;dsimp only at he hA1 HWA
   have FT:=aa FT1.out;have HA1:=aa hA1;clear FT1;unfold cB at he;cases hyd:y.down
   . rw [if_neg (by simp [hyd])] at he
     subst he;have HW:Hid (aH (x,ms) s zs=if (wr2 (y,ns) s zs).1.down=true then wr2 (y,ns) s zs else wr3 (wr2 (y,ns) s zs) s zs):=by unfold Hid;rw [HWA.out,if_neg (by simp [hyd])];rfl
     clear hA1 HWA;obtain ⟨kM,kL,kn,ks,kq,kf⟩:=FT.out;dsimp only at kM kL kn ks kq kf
     have HN:Hid (y.n=x.n/\y.s=x.s/\y.seq=x.seq/\ns.length=ms.length):=⟨kn,ks,kq,kL⟩;have hn5y:ns.length<=5:=by omega
     have H5a:=aa (MV.out.mine H5.out (fun hm=>(HD5.out B hm).1 rfl) (fun b hb=>(HD5.out b hb).2));have hd1:∀b∈fr,b≠B/\b∉fm1:=fun b hb=>⟨(HD5.out b hb).1,fun hm=>by
      rcases MV.out.2 b hm with h1|h1
      . exact (HD5.out b hb).2 h1
      have:=hl5 b hb;omega⟩
     have HD1:=aa hd1;have c6:=(kc HA1.out).1;have zw:=HA1.out.lt;have zfm:=HA1.out.ltm.1;clear kn ks kq kL hd1;go_wp2_with fail
     have HR2:Hid (wr2 (y,ns) s zs=aS (dp (y,ns) (cD y.seq) (ep y.seq s zs) ns.length) ns.length):=rfl;have FW:=aa (jS (q:=(y,ns)) kM kf s zs);refine (ig _ B y ns ds fm1 fd HA1.out kf hyd kM (by omega) y.seq s ar cr zs H5a.out.rd (by omega)).mono ?_
     rintro e w4 hd;rw [←HR2.out] at hd;obtain ⟨he,fm4,hA4,hMv4⟩:=hd;have MV4:=aa (MV.out.trans hMv4);clear hMv4 HR2 c6 HA1 zfm kM kf;generalize wr2 (y,ns) s zs=st at he hA4 FW HW;obtain ⟨u,ps⟩:=st;dsimp only at he hA4 HW
     obtain ⟨uM,uL,un,us,uq,uf⟩:=FW.out;dsimp only at uM uL un us uq uf
     unfold cB at he;cases hud:u.down
     . rw [if_neg (by simp [hud])] at he
       subst he;have HW3:Hid (aH (x,ms) s zs=wr3 (u,ps) s zs):=by unfold Hid;rw [HW.out,if_neg (by simp [hud])]
       obtain ⟨c6,fz⟩:=kc hA4;have HA5:=aa (sI hA4);have MV5:=aa (MV4.out.trans (aJ.set (B:=B) (j:=6) (fm:=fm4) (w:=w4) (.int .i64 (u.seq+1))));have hwr:IntKind.i64.wrap (u.seq+1)=u.seq+1:=IntWalk.i64_in _ (by have h1:=HSQ.out;have h2:=HN.out;omega);have HU:Hid (u.n=x.n/\u.s=x.s/\ps.length=ms.length):=⟨un.trans HN.out.1,us.trans HN.out.2.1,uL.trans HN.out.2.2.2⟩;have hps:ps.length<=5:=by have:=HU.out.2.2;omega
       have H5b:=aa (MV5.out.mine H5.out (fun hm=>(HD5.out B hm).1 rfl) (fun b hb=>(HD5.out b hb).2));have HUF:Hid (u.vI<=1000/\u.down=false/\bM ps):=⟨uf,hud,uM⟩;have HRW:Hid (wr3 (u,ps) s zs=bg ({u with seq:=u.seq+1},ps) s (bX u.n u.s s) zs ps.length):=rfl;have HRN:=aa (mn (q:=({u with seq:=u.seq+1},ps)) uM uf s (bX u.n u.s s) zs ps.length);clear hA4 hud HW uM uL un us uq uf MV4 FW;have zf5:=HA5.out.ltm.1;have zB5:=HA5.out.lt;go_wp2_with fail
       clear c6 fz;generalize w4.setCell ⟨B,6,none⟩ (.int .i64 (u.seq+1))=w5 at HA5 MV5 H5b zf5 zB5 ⊢;refine (jf w5 B {u with seq:=u.seq+1} ps ds fm4 fd HA5.out (by have h1:=HU.out;have h2:=HLN.out;dsimp only;omega) (by dsimp only;rw [HU.out.1,HU.out.2.1];exact HG.out) s (by dsimp only;rw [HU.out.2.1];exact HS.out) ar cr zs H5b.out.rd (by have h1:=HU.out;have h2:=HLN.out;dsimp only;omega) (uY HUF.out.2.2 hps HWT.out)).mono ?_
       rintro e w6 ⟨bo2,co2,rfl,oo,b6⟩;obtain ⟨fo2,mo,ro⟩:=oo.mine;have HP:=aa (fv w6 B {u with seq:=u.seq+1} ps ds fm4 fd (HA5.out.below b6) HUF.out.1 HUF.out.2.1 HUF.out.2.2 bo2 co2 (ee {u with seq:=u.seq+1} ps s (bX u.n u.s s) zs ps.length) fo2 mo (fun b hb=>⟨fun e=>by have:=(ro b hb).1;omega,fun hm=>by have h1:=(ro b hb).1;have h2:=zf5 b hm;omega⟩) (fun o ho=>og ho));have MV6:=aa (MV5.out.below b6);clear oo mo ro b6 HA5 MV5 zf5;go_wp2_with fail
       refine HP.out.mono ?_
       rintro e w7 hd;rw [HRN.out] at hd;obtain ⟨he,fm7,hA7,hMv7⟩:=hd;have HDD:Hid (Did w B fm ds fd (aH (x,ms) s zs) e w7):=by unfold Hid;rw [HW3.out,HRW.out];exact ⟨he,fm7,hA7,MV6.out.trans hMv7⟩
       clear hA7 hMv7 HP MV6 HRN HRW HW3;generalize bg ({u with seq:=u.seq+1},ps) s (bX u.n u.s s) zs ps.length=st at he;unfold cB at he;cases hst:st.1.down
       . rw [if_neg (by simp [hst])] at he
         subst he;clear hst;go_wp2
         refine bodyPost_end (v:=.tuple #[]) (results_none rfl _ _ _) rfl ?_
         exact HDD.out
       rw [if_pos hst] at he;subst he;clear hst;go_wp2
       exact ⟨rfl,HDD.out⟩
     rw [if_pos hud] at he;subst he;have HDD:Hid (Did w B fm ds fd (aH (x,ms) s zs) (.panicked je) w4):=by unfold Hid;rw [HW.out,if_pos hud];exact ⟨cB.gone hud,fm4,hA4,MV4.out⟩
     clear hud hA4;go_wp2
     exact ⟨rfl,HDD.out⟩
   rw [if_pos hyd] at he;subst he;have HDD:Hid (Did w B fm ds fd (aH (x,ms) s zs) (.panicked je) w1):=by unfold Hid;rw [HWA.out,if_pos hyd];exact ⟨cB.gone hyd,fm1,hA1,MV.out⟩
   clear hyd hA1;go_wp2
   exact ⟨rfl,HDD.out⟩
 have HW1:Hid (wr1 (x,ms)=(x,ms)):=by unfold Hid wr1;rw [if_neg (by dsimp only;omega)]
 rw [decide_eq_false hfull];clear hfull;rw [HW1.out] at FT1;have HW:Hid (aH (x,ms) s zs=if (wr2 (x,ms) s zs).1.down=true then wr2 (x,ms) s zs else wr3 (wr2 (x,ms) s zs) s zs):=by unfold Hid aH;rw [HW1.out,if_neg (by dsimp only;simp [HDN.out])];rfl
 have FT:=aa FT1.out;have MV:=aa MV0.out;have hyd:=HDN.out;clear HW1 FT1 HC0 b0 MV0;obtain ⟨kM,kL,kn,ks,kq,kf⟩:=FT.out;dsimp only at kM kL kn ks kq kf
 have HN:Hid (x.n=x.n/\x.s=x.s/\x.seq=x.seq/\ms.length=ms.length):=⟨kn,ks,kq,kL⟩;have hn5y:ms.length<=5:=by omega
 have H5a:=aa (MV.out.mine H5.out (fun hm=>(HD5.out B hm).1 rfl) (fun b hb=>(HD5.out b hb).2));have hd1:∀b∈fr,b≠B/\b∉fm:=fun b hb=>⟨(HD5.out b hb).1,fun hm=>by
  rcases MV.out.2 b hm with h1|h1
  . exact (HD5.out b hb).2 h1
  have:=hl5 b hb;omega⟩
 have HD1:=aa hd1;have c6:=(kc HA1.out).1;have zw:=HA1.out.lt;have zfm:=HA1.out.ltm.1;clear kn ks kq kL hd1;go_wp2_with fail
 have HR2:Hid (wr2 (x,ms) s zs=aS (dp (x,ms) (cD x.seq) (ep x.seq s zs) ms.length) ms.length):=rfl;have FW:=aa (jS (q:=(x,ms)) kM kf s zs);refine (ig _ B x ms ds fm fd HA1.out kf hyd kM (by omega) x.seq s ar cr zs H5a.out.rd (by omega)).mono ?_
 rintro e w4 hd;rw [←HR2.out] at hd;obtain ⟨he,fm4,hA4,hMv4⟩:=hd;have MV4:=aa (MV.out.trans hMv4);clear hMv4 HR2 c6 HA1 zfm kM kf;generalize wr2 (x,ms) s zs=st at he hA4 FW HW;obtain ⟨u,ps⟩:=st;dsimp only at he hA4 HW
 obtain ⟨uM,uL,un,us,uq,uf⟩:=FW.out;dsimp only at uM uL un us uq uf
 unfold cB at he;cases hud:u.down
 . rw [if_neg (by simp [hud])] at he
   subst he;have HW3:Hid (aH (x,ms) s zs=wr3 (u,ps) s zs):=by unfold Hid;rw [HW.out,if_neg (by simp [hud])]
   obtain ⟨c6,fz⟩:=kc hA4;have HA5:=aa (sI hA4);have MV5:=aa (MV4.out.trans (aJ.set (B:=B) (j:=6) (fm:=fm4) (w:=w4) (.int .i64 (u.seq+1))));have hwr:IntKind.i64.wrap (u.seq+1)=u.seq+1:=IntWalk.i64_in _ (by have h1:=HSQ.out;have h2:=HN.out;omega);have HU:Hid (u.n=x.n/\u.s=x.s/\ps.length=ms.length):=⟨un,us,uL⟩;have hps:ps.length<=5:=by have:=HU.out.2.2;omega
   have H5b:=aa (MV5.out.mine H5.out (fun hm=>(HD5.out B hm).1 rfl) (fun b hb=>(HD5.out b hb).2));have HUF:Hid (u.vI<=1000/\u.down=false/\bM ps):=⟨uf,hud,uM⟩;have HRW:Hid (wr3 (u,ps) s zs=bg ({u with seq:=u.seq+1},ps) s (bX u.n u.s s) zs ps.length):=rfl;have HRN:=aa (mn (q:=({u with seq:=u.seq+1},ps)) uM uf s (bX u.n u.s s) zs ps.length);clear hA4 hud HW uM uL un us uq uf MV4 FW;have zf5:=HA5.out.ltm.1;have zB5:=HA5.out.lt;go_wp2_with fail
   clear c6 fz;generalize w4.setCell ⟨B,6,none⟩ (.int .i64 (u.seq+1))=w5 at HA5 MV5 H5b zf5 zB5 ⊢;refine (jf w5 B {u with seq:=u.seq+1} ps ds fm4 fd HA5.out (by have h1:=HU.out;have h2:=HLN.out;dsimp only;omega) (by dsimp only;rw [HU.out.1,HU.out.2.1];exact HG.out) s (by dsimp only;rw [HU.out.2.1];exact HS.out) ar cr zs H5b.out.rd (by have h1:=HU.out;have h2:=HLN.out;dsimp only;omega) (uY HUF.out.2.2 hps HWT.out)).mono ?_
   rintro e w6 ⟨bo2,co2,rfl,oo,b6⟩;obtain ⟨fo2,mo,ro⟩:=oo.mine;have HP:=aa (fv w6 B {u with seq:=u.seq+1} ps ds fm4 fd (HA5.out.below b6) HUF.out.1 HUF.out.2.1 HUF.out.2.2 bo2 co2 (ee {u with seq:=u.seq+1} ps s (bX u.n u.s s) zs ps.length) fo2 mo (fun b hb=>⟨fun e=>by have:=(ro b hb).1;omega,fun hm=>by have h1:=(ro b hb).1;have h2:=zf5 b hm;omega⟩) (fun o ho=>og ho));have MV6:=aa (MV5.out.below b6);clear oo mo ro b6 HA5 MV5 zf5;go_wp2_with fail
   refine HP.out.mono ?_
   rintro e w7 hd;rw [HRN.out] at hd;obtain ⟨he,fm7,hA7,hMv7⟩:=hd;have HDD:Hid (Did w B fm ds fd (aH (x,ms) s zs) e w7):=by unfold Hid;rw [HW3.out,HRW.out];exact ⟨he,fm7,hA7,MV6.out.trans hMv7⟩
   clear hA7 hMv7 HP MV6 HRN HRW HW3;generalize bg ({u with seq:=u.seq+1},ps) s (bX u.n u.s s) zs ps.length=st at he;unfold cB at he;cases hst:st.1.down
   . rw [if_neg (by simp [hst])] at he
     subst he;clear hst;go_wp2
     refine bodyPost_end (v:=.tuple #[]) (results_none rfl _ _ _) rfl ?_
     exact HDD.out
   rw [if_pos hst] at he;subst he;clear hst;go_wp2
   exact ⟨rfl,HDD.out⟩
 rw [if_pos hud] at he;subst he;have HDD:Hid (Did w B fm ds fd (aH (x,ms) s zs) (.panicked je) w4):=by unfold Hid;rw [HW.out,if_pos hud];exact ⟨cB.gone hud,fm4,hA4,MV4.out⟩
 clear hud hA4;go_wp2
 exact ⟨rfl,HDD.out⟩
theorem qF (w:World) (B:Nat) (x:al) (ms:List ai) (ds:List (Int×List Int)) (fm fd:List Nat) (h:aD w B x ms ds fm fd) (s:Int) (ar:Option Addr) (cr:Nat) (zs:List Int) (fr:List Nat) (p r:Nat) (hp:Box w p 3 #[.int .i64 s]) (hr:Box w r 31 #[.slice ar zs.length cr]) (ha:aZ x ms ds=true) (hdn:x.down=false) (hgn:x.gen<60000) (hsq:¬x.seq=60000) (hs:inB s 0 (x.s-1)=true) (h5:aA.Mine w [.slice ar zs.length cr] zs fr) (h5d:∀b∈fr,b≠B/\b∉fm) (hz:(zs.length:Int)=x.n-1) (hwt:aM ms ds<=2000000):Calls Tryz.prog 92 #[.pointer (some ⟨B,0,none⟩),.pointer (some ⟨p,0,none⟩),.pointer (some ⟨r,0,none⟩)] w (Did w B fm ds fd (aH (x,ms) s zs)):=by
 have c0:=hp.cell 0;have c1:=hr.cell 0;have HW:=aa (nI w B x ms ds fm fd h ha hdn hgn hsq s hs ar cr zs fr h5 h5d hz hwt);clear h ha hdn hgn hsq hs h5 h5d hz hwt hp hr;go_enter Tryz.func92,Tryz.ntmps92
 go_wp2_with fail
 refine HW.out.mono ?_
 rintro e w1 hd;have HDD:=aa hd;obtain ⟨he,_⟩:=hd;clear HW c0 c1;unfold cB at he;generalize (aH (x,ms) s zs).1.down=dn at he;cases dn
 . rw [if_neg (by simp)] at he
   subst he;go_wp2
   refine bodyPost_end (v:=.tuple #[]) (results_none rfl _ _ _) rfl ?_
   exact HDD.out
 rw [if_pos rfl] at he;subst he;go_wp2
 exact ⟨rfl,HDD.out⟩
theorem nJ (w:World) (E F G:TypeId) (x:al) (am ad:Option Addr) (nm cm nd cd:Nat) (ms:List ai) (ds:List (Int×List Int)) (h0:(bt E F).Rd w [.slice am nm cm] ms) (h1:(aU G).Rd w [.slice ad nd cd] ds) (hw:aM ms ds<=2097152) (s:Int) (ar:Option Addr) (cr:Nat) (zs:List Int) (h5:aA.Rd w [.slice ar zs.length cr] zs) (hz5:zs.length<=2097152):
 Calls Tryz.prog 89 #[.agg #[.int .i64 x.id,.int .i64 x.n,.int .i64 x.s,.slice am nm cm,.int .i64 x.lost,.int .i64 x.vG,.int .i64 x.seq,.int .i64 x.tail,.int .i64 x.gen,.slice ad nd cd,.int .i64 x.vI,.bool x.down,.bool x.vH],.int .i64 s,.slice ar zs.length cr] w fun e w'=>e=.returned (.int .i64 (aY x ms ds s zs))/\Below w.heap.size w w':=by
 have hA:=ae w (.cells #[.int .i64 x.id,.int .i64 x.n,.int .i64 x.s,.slice am nm cm,.int .i64 x.lost,.int .i64 x.vG,.int .i64 x.seq,.int .i64 x.tail,.int .i64 x.gen,.slice ad nd cd,.int .i64 x.vI,.bool x.down,.bool x.vH] 29);have X0:=Box.new w 29 #[.int .i64 x.id,.int .i64 x.n,.int .i64 x.s,.slice am nm cm,.int .i64 x.lost,.int .i64 x.vG,.int .i64 x.seq,.int .i64 x.tail,.int .i64 x.gen,.slice ad nd cd,.int .i64 x.vI,.bool x.down,.bool x.vH];have zX:=X0.lt;have r0:=h0.below hA;have r1:=h1.below hA;have r5:=h5.below hA;obtain ⟨k0,k1,k2,k3,k4,k5,k6,k7,k8,k9,k10,k11,k12⟩:=X0.cells13;go_enter Tryz.func89,Tryz.ntmps89
 go_wp2_with fail
 generalize w.alloc (.cells #[.int .i64 x.id,.int .i64 x.n,.int .i64 x.s,.slice am nm cm,.int .i64 x.lost,.int .i64 x.vG,.int .i64 x.seq,.int .i64 x.tail,.int .i64 x.gen,.slice ad nd cd,.int .i64 x.vI,.bool x.down,.bool x.vH] 29)=W at hA X0 zX r0 r1 r5 k0 k1 k2 k3 k4 k5 k6 k7 k8 k9 k10 k11 k12 ⊢;refine (eY _ E F G x _ _ _ _ _ _ ms ds r0 r1 hw).mono ?_
 rintro e w1 ⟨rfl,b1⟩;have X1:=X0.below b1 zX;have p5:=r5.below b1;have B1:=Below.andThen hA b1;clear k0 k1 k2 k3 k4 k5 k6 k7 k8 k9 k10 k11 k12 X0 r0 r1 r5 b1 hA zX;obtain ⟨k0,k1,k2,k3,k4,k5,k6,k7,k8,k9,k10,k11,k12⟩:=X1.cells13;cases ha:aZ x ms ds
 . have HV:Hid (aY x ms ds s zs=1):=by unfold Hid aY;rw [ha,Bool.false_and,if_pos rfl]
   clear ha;have HB:=aa B1;clear B1;go_wp2
   go_ret
   exact ⟨aG HV.out.symm,HB.out⟩
 have hln:=eg ha;have hrg:x.seq<=60000/\1<=x.s/\x.s<=8/\bF x.n x.s=true:=by
  unfold aZ dB at ha;simp only [Bool.and_eq_true,aI,decide_eq_true_eq] at ha
  obtain ⟨hgeo,_,_,_,_,htl,hsq2,hst,_⟩:=ha;have:=aB.1 hgeo;exact ⟨hsq2.2,this.2.2.1,this.2.2.2,hgeo⟩
 obtain ⟨hn3,hn5,hnl⟩:=hln;clear hnl;obtain ⟨hq6,hs1,hs8,hgeo⟩:=hrg;have wn:IntKind.i64.wrap (x.n-1)=x.n-1:=IntWalk.i64_in _ (by omega);have ws:IntKind.i64.wrap (x.s-1)=x.s-1:=IntWalk.i64_in _ (by omega);by_cases hzl:(zs.length:Int)=x.n-1
 . have hne:((zs.length:Int) !=x.n-1)=false:=by simp [hzl]
   have HZL:=aa hzl;have h12:zs.length<=12:=by omega
   have hsec:da zs=cG zs:=by unfold da;rw [decide_eq_true h12,Bool.true_and]
   have HSEC:=aa hsec;clear hzl hsec h12;go_wp2_with fail
   refine (bP _ x.n x.s hn3 hn5).mono ?_
   rintro e w2 ⟨rfl,b2⟩;have X2:=X1.below b2 X1.lt;have q5:=p5.below b2;have B2:=Below.andThen B1 b2;clear k0 k1 k2 k3 k4 k5 k6 k7 k8 k9 k10 k11 k12 X1 p5 B1 b2;obtain ⟨k0,k1,k2,k3,k4,k5,k6,k7,k8,k9,k10,k11,k12⟩:=X2.cells13;go_wp2_with fail
   refine (bO _ _ _ _ zs rfl (aP q5).1 hz5).mono ?_
   rintro e w3 ⟨rfl,s3⟩;rw [HSEC.out];have X3:=X2.same s3;have B3:=Below.andSame B2 s3;clear k0 k1 k2 k3 k4 k5 k6 k7 k8 k9 k10 k11 k12 X2 q5 B2 s3;obtain ⟨k0,k1,k2,k3,k4,k5,k6,k7,k8,k9,k10,k11,k12⟩:=X3.cells13;cases haw:cG zs
   . have HV:Hid (aY x ms ds s zs=1):=by unfold Hid aY;rw [ha,haw,Bool.and_false,Bool.and_false,if_pos rfl]
     clear haw ha;have HB:=aa B3;clear B3;go_wp2
     go_ret
     exact ⟨aG HV.out.symm,HB.out⟩
   have HU:Hid (aY x ms ds s zs=if x.down=true then 6 else if inB s 0 (x.s-1)=false then 2 else if x.vH=true then 5 else if x.seq=60000∨59990<=x.gen then 7 else 0):=by unfold Hid aY;rw [ha,haw,decide_eq_true HZL.out,if_neg (by simp)]
   clear haw ha;cases hdn:x.down
   . rw [hdn] at k11
     have HU2:Hid (aY x ms ds s zs=if inB s 0 (x.s-1)=false then 2 else if x.vH=true then 5 else if x.seq=60000∨59990<=x.gen then 7 else 0):=by unfold Hid;rw [HU.out,hdn,if_neg (by simp)]
     clear hdn HU;go_wp2_with fail
     refine (cg _ x.n x.s s).mono ?_
     rintro e w4 ⟨rfl,b4⟩;have hsb:bG x.n x.s s=inB s 0 (x.s-1):=by unfold bG;rw [hgeo,Bool.true_and]
     rw [hsb];have X4:=X3.below b4 X3.lt;have B4:=Below.andThen B3 b4;clear k0 k1 k2 k3 k4 k5 k6 k7 k8 k9 k10 k11 k12 X3 B3 b4 hsb;obtain ⟨k0,k1,k2,k3,k4,k5,k6,k7,k8,k9,k10,k11,k12⟩:=X4.cells13;cases hin:inB s 0 (x.s-1)
     . have HV:Hid (aY x ms ds s zs=2):=by unfold Hid;rw [HU2.out,hin,if_pos rfl]
       clear hin;have HB:=aa B4;clear B4;go_wp2
       go_ret
       exact ⟨aG HV.out.symm,HB.out⟩
     have HU3:Hid (aY x ms ds s zs=if x.vH=true then 5 else if x.seq=60000∨59990<=x.gen then 7 else 0):=by unfold Hid;rw [HU2.out,hin,if_neg (by simp)]
     clear hin HU2;cases hbr:x.vH
     . rw [hbr] at k12
       have HU4:Hid (aY x ms ds s zs=if x.seq=60000∨59990<=x.gen then 7 else 0):=by unfold Hid;rw [HU3.out,hbr,if_neg (by simp)]
       clear hbr HU3;by_cases hq:x.seq=60000
       . have HV:Hid (aY x ms ds s zs=7):=by unfold Hid;rw [HU4.out,if_pos (.inl hq)]
         have e1:(x.seq==60000)=true:=by simpa using hq
         have e2:decide (60000<=x.seq)=true:=by simp;omega
         have e3:60000<=x.seq:=by omega
         clear hq;have HB:=aa B4;clear B4;go_wp2
         go_ret
         exact ⟨aG HV.out.symm,HB.out⟩
       have e1:(x.seq==60000)=false:=by simpa using hq
       have e2:¬60000<=x.seq:=by omega
       have e3:decide (60000<=x.seq)=false:=by simp;omega
       by_cases hgn:59990<=x.gen
       . have HV:Hid (aY x ms ds s zs=7):=by unfold Hid;rw [HU4.out,if_pos (.inr hgn)]
         clear hq;have HB:=aa B4;clear B4;go_wp2
         go_ret
         exact ⟨aG HV.out.symm,HB.out⟩
       have HV:Hid (aY x ms ds s zs=0):=by unfold Hid;rw [HU4.out,if_neg (fun h=>h.elim hq hgn)]
       clear hq;have HB:=aa B4;clear B4;go_wp2
       go_ret
       exact ⟨aG HV.out.symm,HB.out⟩
     rw [hbr] at k12;have HV:Hid (aY x ms ds s zs=5):=by unfold Hid;rw [HU3.out,hbr,if_pos rfl]
     clear hbr;have HB:=aa B4;clear B4;go_wp2
     go_ret
     exact ⟨aG HV.out.symm,HB.out⟩
   rw [hdn] at k11;have HV:Hid (aY x ms ds s zs=6):=by unfold Hid;rw [HU.out,hdn,if_pos rfl]
   clear hdn;have HB:=aa B3;clear B3;go_wp2
   go_ret
   exact ⟨aG HV.out.symm,HB.out⟩
 have hne:((zs.length:Int) !=x.n-1)=true:=by simpa using hzl
 have HV:Hid (aY x ms ds s zs=1):=by unfold Hid aY;rw [ha,decide_eq_false hzl,Bool.false_and,Bool.and_false,if_pos rfl]
 clear hzl;go_wp2_with fail
 refine (bP _ x.n x.s hn3 hn5).mono ?_
 rintro e w2 ⟨rfl,b2⟩;have X2:=X1.below b2 X1.lt;have q5:=p5.below b2;have B2:=Below.andThen B1 b2;clear k0 k1 k2 k3 k4 k5 k6 k7 k8 k9 k10 k11 k12 X1 p5 B1 b2;obtain ⟨k0,k1,k2,k3,k4,k5,k6,k7,k8,k9,k10,k11,k12⟩:=X2.cells13;clear ha;have HB:=aa B2;clear B2;go_wp2
 go_ret
 exact ⟨aG HV.out.symm,HB.out⟩
end Go.Proofs.YtejeekndbnpmoaaGreat
