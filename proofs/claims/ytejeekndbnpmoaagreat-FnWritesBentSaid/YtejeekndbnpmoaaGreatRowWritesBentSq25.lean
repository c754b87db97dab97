/-
 The walks of the program's flushes and syncDisks: all disks flushed. Conditions: the power goes within 1000 operations, or stays; every disk is right.
-/
import Derived.Test.YtejeekndbnpmoaaGreatRowWritesBentSq24
import Derived.Test.YtejeekndbnpmoaaGreatRowWritesBentSq8
import Derived.Test.YtejeekndbnpmoaaGreatRowWritesBentSq19
import Derived.Test.YtejeekndbnpmoaaGreatRowWritesBentSq7
import Derived.Test.YtejeekndbnpmoaaGreatRowWritesBentSq12
import Derived.Test.YtejeekndbnpmoaaGreatRowWritesBentSq17
import Derived.Test.YtejeekndbnpmoaaGreatRowWritesBentSq11
import Derived.Test.YtejeekndbnpmoaaGreatRowWritesBentSq3

set_option maxRecDepth 100000
set_option maxHeartbeats 8000000
set_option linter.unusedSimpArgs false

namespace Go.Proofs.YtejeekndbnpmoaaGreat
open Go.RowKit

theorem nz (w:World) (B p q y u m:Nat) (n:Int) (a5:Option Addr) (c5:Nat) (sw:List Int) (fs:List Nat) (hp:Box w p 79 #[.pointer (some ⟨B,0,none⟩)]) (hq:Box w q 3 #[.int .i64 (m:Int)]) (hy:Box w y 3 #[.int .i64 n]) (hu:Box w u 31 #[.slice a5 sw.length c5]) (h5:aA.Mine w [.slice a5 sw.length c5] sw fs) (hl5:sw.length<=2097152):nf B (p :: q :: y :: u :: fs) 255 #[.pointer (some ⟨p,0,none⟩),.pointer (some ⟨q,0,none⟩),.pointer (some ⟨y,0,none⟩),.pointer (some ⟨u,0,none⟩)] (wrK n sw m) w:=by
 intro x ms ds fm fd hA hM hdis hlt;dsimp only [wrK] at hlt
 obtain ⟨bm,bd,cm,cd,X,hmm,hdd,hr,r1,r2⟩:=hA;have hm63:=(af hmm.rd).2;obtain ⟨g,rfl⟩:=bU hmm (by omega);have hdj:ms[m]?=some (ms[m]'(by omega)):=List.getElem?_eq_getElem (by omega);generalize ms[m]'(by omega)=d at hdj;have hgm:ms.getD m gZ=d:=eE hdj;obtain ⟨hgl,a0,a1,a3,c0,c1,c3,ss,cs,f,bs,rfl,q0,q1,q2,q3,p0,p1,p3⟩:=dM hmm hdj;have X0:=X;unfold aC at X0;obtain ⟨k0,k1,k2,k3,k4,k5,k6,k7,k8,k9,k10,k11,k12⟩:=X0.cells13;have zp:=hp.lt;have cp:=hp.cell 0;have zq:=hq.lt;have cq:=hq.cell 0;have zy:=hy.lt;have cy:=hy.cell 0;have zu:=hu.lt;have cu:=hu.cell 0;have hwt:=du (hM m _ hdj) f;dsimp only at hwt
 have zB:=X.lt;have p5:=h5.rd;have XH:=aa X;have MH:=aa hmm;have DH:=aa hdd;have R0:=aa p0;have R1:=aa p1;have R3:=aa p3;have R5:=aa p5;have HG:=aa hgm;have hS:w.drew.cell? ⟨p,0,none⟩=some (.pointer (some ⟨B,0,none⟩))/\w.drew.cell? ⟨q,0,none⟩=some (.int .i64 (m:Int))/\w.drew.cell? ⟨y,0,none⟩=some (.int .i64 n)/\w.drew.cell? ⟨u,0,none⟩=some (.slice a5 sw.length c5)/\w.drew.cell? ⟨B,3,none⟩=some (.slice (some ⟨g,0,none⟩) ms.length cm)/\w.drew.cell? ⟨g,m*4,none⟩=some (.slice a0 ss.length c0)/\w.drew.cell? ⟨g,m*4+1,none⟩=some (.slice a1 cs.length c1)/\w.drew.cell? ⟨g,m*4+2,none⟩=some (.bool f)/\w.drew.cell? ⟨g,m*4+3,none⟩=some (.slice a3 bs.length c3):=⟨cp,cq,cy,cu,k3,q0,q1,q2,q3⟩;have i1:(0:Int)<=(m:Int):=by omega
 have i3:(m:Int)<(ms.length:Int):=by omega
 clear X X0 hmm hdd p0 p1 p3 p5 h5 hM hdj hgm hdis;go_enter Tryz.func255,Tryz.ntmps255
 go_wp2_with fail
 refine bw.start (S:=fun w'=>w'.cell? ⟨p,0,none⟩=some (.pointer (some ⟨B,0,none⟩))/\w'.cell? ⟨q,0,none⟩=some (.int .i64 (m:Int))/\w'.cell? ⟨y,0,none⟩=some (.int .i64 n)/\w'.cell? ⟨u,0,none⟩=some (.slice a5 sw.length c5)/\w'.cell? ⟨B,3,none⟩=some (.slice (some ⟨g,0,none⟩) ms.length cm)/\w'.cell? ⟨g,m*4,none⟩=some (.slice a0 ss.length c0)/\w'.cell? ⟨g,m*4+1,none⟩=some (.slice a1 cs.length c1)/\w'.cell? ⟨g,m*4+2,none⟩=some (.bool f)/\w'.cell? ⟨g,m*4+3,none⟩=some (.slice a3 bs.length c3)) (k:=19) (by kernel_rfl) ?_
 refine bw.take (i:=0) (v:=?_) rfl (by kernel_rfl) (by kernel_rfl) (by kernel_rfl) (by kernel_rfl) (fun _ _ _ h=>h) (Or.inl ⟨by rfl,?_⟩) hS ?_
 rotate_left 1
 . (intro w hSw;(try dsimp only at hSw);go_split_ands;go_simp;first|done|with_reducible rfl)
 simp only [Act.put,List.setIfInBounds_toArray,List.set_cons_zero,List.set_cons_succ]
 refine bw.take (i:=1) (v:=?_) rfl (by kernel_rfl) (by kernel_rfl) (by kernel_rfl) (by kernel_rfl) (fun _ _ _ h=>h) (Or.inl ⟨by rfl,?_⟩) hS ?_
 rotate_left 1
 . (intro w hSw;(try dsimp only at hSw);go_split_ands;go_simp;first|done|with_reducible rfl)
 simp only [Act.put,List.setIfInBounds_toArray,List.set_cons_zero,List.set_cons_succ]
 refine bw.take (i:=2) (v:=?_) rfl (by kernel_rfl) (by kernel_rfl) (by kernel_rfl) (by kernel_rfl) (fun _ _ _ h=>h) (Or.inl ⟨by rfl,?_⟩) hS ?_
 rotate_left 1
 . (intro w hSw;(try dsimp only at hSw);go_split_ands;go_simp;first|done|with_reducible rfl)
 simp only [Act.put,List.setIfInBounds_toArray,List.set_cons_zero,List.set_cons_succ]
 refine bw.take (i:=3) (v:=?_) rfl (by kernel_rfl) (by kernel_rfl) (by kernel_rfl) (by kernel_rfl) (fun _ _ _ h=>h) (Or.inl ⟨by rfl,?_⟩) hS ?_
 rotate_left 1
 . (intro w hSw;(try dsimp only at hSw);go_split_ands;go_simp;first|done|with_reducible rfl)
 simp only [Act.put,List.setIfInBounds_toArray,List.set_cons_zero,List.set_cons_succ]
 refine bw.take (i:=4) (v:=?_) rfl (by kernel_rfl) (by kernel_rfl) (by kernel_rfl) (by kernel_rfl) (fun _ _ _ h=>h) (Or.inl ⟨by rfl,?_⟩) hS ?_
 rotate_left 1
 . (intro w hSw;(try dsimp only at hSw);go_split_ands;go_simp;first|done|with_reducible rfl)
 simp only [Act.put,List.setIfInBounds_toArray,List.set_cons_zero,List.set_cons_succ]
 refine bw.take (i:=5) (v:=?_) rfl (by kernel_rfl) (by kernel_rfl) (by kernel_rfl) (by kernel_rfl) (fun _ _ _ h=>h) (Or.inl ⟨by rfl,?_⟩) hS ?_
 rotate_left 1
 . (intro w hSw;(try dsimp only at hSw);go_split_ands;go_simp;first|done|with_reducible rfl)
 simp only [Act.put,List.setIfInBounds_toArray,List.set_cons_zero,List.set_cons_succ]
 refine bw.take (i:=6) (v:=?_) rfl (by kernel_rfl) (by kernel_rfl) (by kernel_rfl) (by kernel_rfl) (fun _ _ _ h=>h) (Or.inl ⟨by rfl,?_⟩) hS ?_
 rotate_left 1
 . (intro w hSw;(try dsimp only at hSw);go_split_ands;go_simp;first|done|with_reducible rfl)
 simp only [Act.put,List.setIfInBounds_toArray,List.set_cons_zero,List.set_cons_succ]
 refine bw.take (i:=7) (v:=?_) rfl (by kernel_rfl) (by kernel_rfl) (by kernel_rfl) (by kernel_rfl) (fun _ _ _ h=>h) (Or.inl ⟨by rfl,?_⟩) hS ?_
 rotate_left 1
 . (intro w hSw;(try dsimp only at hSw);go_split_ands;go_simp;first|done|with_reducible rfl)
 simp only [Act.put,List.setIfInBounds_toArray,List.set_cons_zero,List.set_cons_succ]
 refine bw.take (i:=8) (v:=?_) rfl (by kernel_rfl) (by kernel_rfl) (by kernel_rfl) (by kernel_rfl) (fun _ _ _ h=>h) (Or.inl ⟨by rfl,?_⟩) hS ?_
 rotate_left 1
 . (intro w hSw;(try dsimp only at hSw);go_split_ands;go_simp;first|done|with_reducible rfl)
 simp only [Act.put,List.setIfInBounds_toArray,List.set_cons_zero,List.set_cons_succ]
 refine bw.take (i:=9) (v:=?_) rfl (by kernel_rfl) (by kernel_rfl) (by kernel_rfl) (by kernel_rfl) (fun _ _ _ h=>h) (Or.inl ⟨by rfl,?_⟩) hS ?_
 rotate_left 1
 . (intro w hSw;(try dsimp only at hSw);go_split_ands;go_simp;first|done|with_reducible rfl)
 simp only [Act.put,List.setIfInBounds_toArray,List.set_cons_zero,List.set_cons_succ]
 refine bw.take (i:=10) (v:=?_) rfl (by kernel_rfl) (by kernel_rfl) (by kernel_rfl) (by kernel_rfl) (fun _ _ _ h=>h) (Or.inl ⟨by rfl,?_⟩) hS ?_
 rotate_left 1
 . (intro w hSw;(try dsimp only at hSw);go_split_ands;go_simp;first|done|with_reducible rfl)
 simp only [Act.put,List.setIfInBounds_toArray,List.set_cons_zero,List.set_cons_succ]
 refine bw.take (i:=11) (v:=?_) rfl (by kernel_rfl) (by kernel_rfl) (by kernel_rfl) (by kernel_rfl) (fun _ _ _ h=>h) (Or.inl ⟨by rfl,?_⟩) hS ?_
 rotate_left 1
 . (intro w hSw;(try dsimp only at hSw);go_split_ands;go_simp;first|done|with_reducible rfl)
 simp only [Act.put,List.setIfInBounds_toArray,List.set_cons_zero,List.set_cons_succ]
 refine bw.take (i:=12) (v:=?_) rfl (by kernel_rfl) (by kernel_rfl) (by kernel_rfl) (by kernel_rfl) (fun _ _ _ h=>h) (Or.inl ⟨by rfl,?_⟩) hS ?_
 rotate_left 1
 . (intro w hSw;(try dsimp only at hSw);go_split_ands;go_simp;first|done|with_reducible rfl)
 simp only [Act.put,List.setIfInBounds_toArray,List.set_cons_zero,List.set_cons_succ]
 refine bw.take (i:=13) (v:=?_) rfl (by kernel_rfl) (by kernel_rfl) (by kernel_rfl) (by kernel_rfl) (fun _ _ _ h=>h) (Or.inl ⟨by rfl,?_⟩) hS ?_
 rotate_left 1
 . (intro w hSw;(try dsimp only at hSw);go_split_ands;go_simp;first|done|with_reducible rfl)
 simp only [Act.put,List.setIfInBounds_toArray,List.set_cons_zero,List.set_cons_succ]
 refine bw.one (i:=14) (by kernel_rfl) rfl (fun K hK=>?_)
 go_simp
 refine (dR _ 171 _ _ _ _ _ _ _ _ _ _ _ _ ss cs f bs n sw R0.out.drew R1.out.drew R3.out.drew R5.out.drew (by omega) (by omega)).mono ?_
 rintro e w2 ⟨u0,u1,u3,rfl,o2,b2'⟩;have b2:Below w.heap.size w w2:=(Below.refl w.heap.size w).drew.trans b2';have o2b:(bR 171).Own w2 w.heap.size w2.heap.size [u0,u1,.bool f,u3] _:=o2;obtain ⟨d0,l0,f0,d1,l1,f1,d3,l3,f3,hv0,hv1,hv3⟩:=bS o2b;subst hv0 hv1 hv3;obtain ⟨fpx,mx,rx⟩:=o2b.mine;obtain ⟨cOld,fz,hgm,fm9,hA9,hMv9⟩:=eu (m:=m) XH.out MH.out DH.out hr r1 r2 b2 (by omega) mx (fun b hb=>(rx b hb).1);obtain ⟨o0,t0⟩:=cOld 0 (by omega);obtain ⟨o1,t1⟩:=cOld 1 (by omega);obtain ⟨o2',t2⟩:=cOld 2 (by omega);obtain ⟨o3,t3⟩:=cOld 3 (by omega);rw [Nat.add_zero] at t0;have HA:=aa hA9;have HMV:=aa hMv9;have hS2:w2.cell? ⟨p,0,none⟩=some (.pointer (some ⟨B,0,none⟩))/\w2.cell? ⟨q,0,none⟩=some (.int .i64 (m:Int))/\w2.cell? ⟨y,0,none⟩=some (.int .i64 n)/\w2.cell? ⟨u,0,none⟩=some (.slice a5 sw.length c5)/\w2.cell? ⟨B,3,none⟩=some (.slice (some ⟨g,0,none⟩) ms.length cm)/\w2.cell? ⟨g,m*4,none⟩=some (.slice a0 ss.length c0)/\w2.cell? ⟨g,m*4+1,none⟩=some (.slice a1 cs.length c1)/\w2.cell? ⟨g,m*4+2,none⟩=some (.bool f)/\w2.cell? ⟨g,m*4+3,none⟩=some (.slice a3 bs.length c3):=⟨(b2.cell (p:=⟨p,0,none⟩) zp).trans cp,(b2.cell (p:=⟨q,0,none⟩) zq).trans cq,(b2.cell (p:=⟨y,0,none⟩) zy).trans cy,(b2.cell (p:=⟨u,0,none⟩) zu).trans cu,(b2.cell (p:=⟨B,3,none⟩) zB).trans k3,(b2.cell (p:=⟨g,m*4,none⟩) hgl).trans q0,(b2.cell (p:=⟨g,m*4+1,none⟩) hgl).trans q1,(b2.cell (p:=⟨g,m*4+2,none⟩) hgl).trans q2,(b2.cell (p:=⟨g,m*4+3,none⟩) hgl).trans q3⟩;have gB:¬g=B:=fun e=>r1 (e▸hgm);unfold fi at HA HMV;have HF:Hid (∀W,aD W B x (ms.set m (wrM (ss,cs,f,bs) n sw)) ds fm9 fd->aJ B fm w fm9 W->(Ending.returned (Value.tuple #[])=.returned (.tuple #[])/\∃fm',aD W B x (ms.set (wrK n sw m).1 (opF (wrK n sw m) x (ms.getD (wrK n sw m).1 gZ))) ds fm' fd/\aJ B fm w fm' W)):=fun W h1 h2=>⟨rfl,fm9,by show aD W B x (ms.set m (opF (wrK n sw m) x (ms.getD m gZ))) ds fm9 fd;rw [HG.out];exact h1,h2⟩;clear cp cq cy cu k3 q0 q1 q2 q3 o2 o2b b2 b2' mx rx cOld hA9 hMv9 XH MH DH R0 R1 R3 R5 hwt HG;go_wp2_with fail
 refine hK.out _ _ (fun _=>hS2) ?_
 clear hK K;refine bw.take (i:=15) (v:=?_) rfl (by kernel_rfl) (by kernel_rfl) (by kernel_rfl) (by kernel_rfl) (fun _ _ _ h=>h) (Or.inl ⟨by rfl,?_⟩) hS2 ?_
 rotate_left 1
 . (intro w hSw;(try dsimp only at hSw);go_split_ands;go_simp;first|done|with_reducible rfl)
 simp only [Act.put,List.setIfInBounds_toArray,List.set_cons_zero,List.set_cons_succ]
 refine bw.take (i:=16) (v:=?_) rfl (by kernel_rfl) (by kernel_rfl) (by kernel_rfl) (by kernel_rfl) (fun _ _ _ h=>h) (Or.inl ⟨by rfl,?_⟩) hS2 ?_
 rotate_left 1
 . (intro w hSw;(try dsimp only at hSw);go_split_ands;go_simp;first|done|with_reducible rfl)
 simp only [Act.put,List.setIfInBounds_toArray,List.set_cons_zero,List.set_cons_succ]
 refine bw.take (i:=18) (v:=?_) rfl (by kernel_rfl) (by kernel_rfl) (by kernel_rfl) (by kernel_rfl) (fun _ _ _ h=>h) (Or.inl ⟨by rfl,?_⟩) hS2 ?_
 rotate_left 1
 . (intro w hSw;(try dsimp only at hSw);go_split_ands;go_simp;first|done|with_reducible rfl)
 simp only [Act.put,List.setIfInBounds_toArray,List.set_cons_zero,List.set_cons_succ]
 refine bw.two (i:=17) (i':=19) (by kernel_rfl) rfl rfl (fun K hK=>?_) (fun K hK=>?_)
 . go_simp
   refine hK.out _ _ (fun _=>hS2) ?_
   clear hK K;refine bw.one (i:=19) (by kernel_rfl) rfl (fun K hK=>?_)
   go_simp
   refine hK.out _ _ (fun h=>absurd rfl h) ?_
   clear hK K;refine bw.done (by kernel_rfl) ?_ _
   clear hS hS2 t0 t1 t2 t3 fz;go_wp2
   refine bodyPost_end (v:=.tuple #[]) (results_none rfl _ _ _) rfl ?_
   exact ⟨rfl,(HF.out _ HA.out HMV.out).2⟩
 go_simp
 refine hK.out _ _ (fun h=>absurd rfl h) ?_
 clear hK K;refine bw.late (i:=17) (by kernel_rfl) rfl (by kernel_rfl) (fun K hK=>?_)
 go_simp
 refine hK.out _ _ ?_
 clear hK K;refine bw.done (by kernel_rfl) ?_ _
 clear hS hS2 t0 t1 t2 t3 fz;go_wp2
 refine bodyPost_end (v:=.tuple #[]) (results_none rfl _ _ _) rfl ?_
 exact ⟨rfl,(HF.out _ HA.out HMV.out).2⟩
theorem ln (w:World) (B m:Nat) (n:Int) (a5:Option Addr) (c5:Nat) (sw:List Int) (fs:List Nat) (h5:aA.Mine w [.slice a5 sw.length c5] sw fs) (hl5:sw.length<=2097152):Calls Tryz.prog 219 #[.pointer (some ⟨B,0,none⟩),.int .i64 (m:Int),.int .i64 n,.slice a5 sw.length c5] w fun e w'=>∃v fp,e=.returned v/\(jI B).Mine w' [v] (wrK n sw m) fp/\(∀b∈fp,b∈fs∨(w.heap.size<=b/\b<w'.heap.size))/\Below w.heap.size w w':=by
 have hmf:∀(fn:Fn) (first cap:Array Value) (w:World),(Instr.makeFunc fn first cap).run Tryz.prog w=.ok (.func fn first cap) w:=fun _ _ _ _=>rfl;have hb:Below w.heap.size w ((((w.alloc (.cells #[.pointer (some ⟨B,0,none⟩)] 79)).alloc (.cells #[.int .i64 (m:Int)] 3)).alloc (.cells #[.int .i64 n] 3)).alloc (.cells #[.slice a5 sw.length c5] 31)):=((((Below.refl _ _).alloc (Nat.le_refl _) _).alloc (by simp) _).alloc (by simp;omega) _).alloc (by simp;omega) _;have zz:∀v:World,∀ob:Obj,(v.alloc ob).heap.size=v.heap.size+1:=fun v ob=>by simp
 have b0:=Box.new w 79 #[.pointer (some ⟨B,0,none⟩)];replace b0:=b0.alloc (.cells #[.int .i64 (m:Int)] 3)
 replace b0:=b0.alloc (.cells #[.int .i64 n] 3)
 replace b0:=b0.alloc (.cells #[.slice a5 sw.length c5] 31)
 have b1:=Box.new (w.alloc (.cells #[.pointer (some ⟨B,0,none⟩)] 79)) 3 #[.int .i64 (m:Int)];rw [zz] at b1;replace b1:=b1.alloc (.cells #[.int .i64 n] 3)
 replace b1:=b1.alloc (.cells #[.slice a5 sw.length c5] 31)
 have b2:=Box.new ((w.alloc (.cells #[.pointer (some ⟨B,0,none⟩)] 79)).alloc (.cells #[.int .i64 (m:Int)] 3)) 3 #[.int .i64 n];rw [zz,zz] at b2;replace b2:=b2.alloc (.cells #[.slice a5 sw.length c5] 31)
 have b3:=Box.new (((w.alloc (.cells #[.pointer (some ⟨B,0,none⟩)] 79)).alloc (.cells #[.int .i64 (m:Int)] 3)).alloc (.cells #[.int .i64 n] 3)) 31 #[.slice a5 sw.length c5];rw [zz,zz,zz] at b3;have hsz:((((w.alloc (.cells #[.pointer (some ⟨B,0,none⟩)] 79)).alloc (.cells #[.int .i64 (m:Int)] 3)).alloc (.cells #[.int .i64 n] 3)).alloc (.cells #[.slice a5 sw.length c5] 31)).heap.size=w.heap.size+1+1+1+1:=by simp
 have hlt:=h5.lt;have h5w:aA.Mine ((((w.alloc (.cells #[.pointer (some ⟨B,0,none⟩)] 79)).alloc (.cells #[.int .i64 (m:Int)] 3)).alloc (.cells #[.int .i64 n] 3)).alloc (.cells #[.slice a5 sw.length c5] 31)) [.slice a5 sw.length c5] sw fs:=h5.below hb;have HO:Hid ((jI B).Mine ((((w.alloc (.cells #[.pointer (some ⟨B,0,none⟩)] 79)).alloc (.cells #[.int .i64 (m:Int)] 3)).alloc (.cells #[.int .i64 n] 3)).alloc (.cells #[.slice a5 sw.length c5] 31)) [.func (Fn.func 255) #[] #[.pointer (some ⟨w.heap.size,0,none⟩),.pointer (some ⟨w.heap.size+1,0,none⟩),.pointer (some ⟨w.heap.size+1+1,0,none⟩),.pointer (some ⟨w.heap.size+1+1+1,0,none⟩)]] (wrK n sw m) ((w.heap.size) :: (w.heap.size+1) :: (w.heap.size+1+1) :: (w.heap.size+1+1+1) :: fs)):=by
  refine ⟨⟨255,_,rfl,dz Tryz.func255 (by kernel_rfl) (by kernel_rfl) _,?_,fun w' hk hs=>?_⟩,?_⟩
  . intro b hb'
    simp only [List.mem_cons] at hb'
    rcases hb' with h|h|h|h|h
    . omega
    . omega
    . omega
    . omega
    have:=hlt b h;omega
  . exact nz w' B _ _ _ _ m n a5 c5 sw fs (b0.kept (hk _ (by simp))) (b1.kept (hk _ (by simp))) (b2.kept (hk _ (by simp))) (b3.kept (hk _ (by simp))) ⟨aA.owKept h5w.1 (fun b hb'=>hk b (by simp [hb'])) hs,h5.2⟩ hl5
  have n0:∀k,w.heap.size<=k->k∉fs:=fun k hk hm=>by have:=hlt k hm;omega
  simp only [List.nodup_cons,List.mem_cons]
  refine ⟨fun h=>?_,fun h=>?_,fun h=>?_,n0 _ (by omega),h5.2⟩
  . rcases h with h|h|h|h
    . omega
    . omega
    . omega
    exact n0 _ (by omega) h
  . rcases h with h|h|h
    . omega
    . omega
    exact n0 _ (by omega) h
  rcases h with h|h
  . omega
  exact n0 _ (by omega) h
 have HB:=aa hb;have HFP:Hid (∀b∈((w.heap.size) :: (w.heap.size+1) :: (w.heap.size+1+1) :: (w.heap.size+1+1+1) :: fs),b∈fs∨(w.heap.size<=b/\b<((((w.alloc (.cells #[.pointer (some ⟨B,0,none⟩)] 79)).alloc (.cells #[.int .i64 (m:Int)] 3)).alloc (.cells #[.int .i64 n] 3)).alloc (.cells #[.slice a5 sw.length c5] 31)).heap.size)):=by
  intro b hb';simp only [List.mem_cons] at hb'
  rcases hb' with h|h|h|h|h
  . exact .inr (by omega)
  . exact .inr (by omega)
  . exact .inr (by omega)
  . exact .inr (by omega)
  exact .inl h
 clear hb b0 b1 b2 b3 hsz h5w zz;go_enter Tryz.func219,Tryz.ntmps219
 go_wp2
 go_ret
 exact ⟨_,_,rfl,HO.out,HFP.out,HB.out⟩
theorem Tryz.infoOp:(Tryz.prog.info? 173).map (fun i=>(i.zero,i.size,i.bytes))=some (some .nilFunc,1,8):=by kernel_rfl
theorem kO (w:World) (B:Nat) (x:al) (ms:List ai) (ds:List (Int×List Int)) (fm fd:List Nat) (h:aD w B x ms ds fm fd) (hl:ms.length<=2097152) (K:Nat->DOp) (F:FuncId) (cap:Array Value)
 (hen:∀m:Nat,ne F (#[.int .i64 (m:Int)]++cap)) (hop:∀(m:Nat) (w':World),m<ms.length->Below w.heap.size w w'->Calls Tryz.prog F (#[.int .i64 (m:Int)]++cap) w' fun e w''=>∃v,e=.returned v/\(jI B).Own w'' w'.heap.size w''.heap.size [v] (K m)/\Below w'.heap.size w' w''):
 Calls Tryz.prog 225 #[.pointer (some ⟨B,0,none⟩),.func (Fn.func F) #[] cap] w fun e w'=>∃bo co,e=.returned (.slice bo (dh K ms ms.length).length co)/\(pq B).Own w' w.heap.size w'.heap.size [.slice bo (dh K ms ms.length).length co] (dh K ms ms.length)/\Below w.heap.size w w':=by
 obtain ⟨i4,hi4,hz0,hz1,hz2⟩:=info_parts Tryz.infoOp;obtain ⟨bm,bd,cm,cd,X,hmm,hdd,hr,r1,r2⟩:=h;have zB:=X.lt;have k3:w.cell? ⟨B,3,none⟩=some (.slice bm ms.length cm):=by
  unfold aC at X;exact X.cells13.2.2.2.1
 have hmx:=(af hmm.rd).2;have ML:=aa (dJ (t:=jI B) (E:=173) w);have HB0:=aa (ae w (.cells #[] 173));have MM:=aa hmm;have HOP:=aa hop;have k3':(w.alloc (.cells #[] 173)).cell? ⟨B,3,none⟩=some (.slice bm ms.length cm):=(HB0.out.cell (p:=⟨B,3,none⟩) zB).trans k3;clear hmm hdd X hop;go_enter Tryz.func225,Tryz.ntmps225
 go_wp2
 go_loopw [5,14] (fun v i wr=>∃(j:Nat) (fp:List Nat),j<=ms.length/\i=.int .i64 j/\(pq B).Mine wr [v] (dh K ms j) fp/\(∀b∈fp,w.heap.size<=b)/\Below w.heap.size w wr) (fun _ i _=>ms.length-(intOf i).toNat)
 case atStart=>exact ⟨0,[w.heap.size],Nat.zero_le _,rfl,ML.out,by simp,HB0.out⟩
 obtain ⟨j,fp,hj,rfl,hm,hfp,hb⟩:=hrel;have hs:=hb.size;by_cases hjn:j<ms.length
 . have i2:(j:Int)<(ms.length:Int):=by omega
   have i1:(0:Int)<=(j:Int):=by omega
   obtain ⟨g,rfl⟩:=bU MM.out (by omega);have hdj:ms[j]?=some (ms[j]'(by omega)):=List.getElem?_eq_getElem (by omega);generalize ms[j]'(by omega)=d at hdj;obtain ⟨hgl,a0,a1,a3,c0,c1,c3,ss,cs,f,bs,rfl,q0,q1,q2,q3,_,_,_⟩:=dM MM.out hdj;have p0:=(hb.cell (p:=⟨g,j*4,none⟩) hgl).trans q0;have p1:=(hb.cell (p:=⟨g,j*4+1,none⟩) hgl).trans q1;have p2:=(hb.cell (p:=⟨g,j*4+2,none⟩) hgl).trans q2;have p3:=(hb.cell (p:=⟨g,j*4+3,none⟩) hgl).trans q3;have hfl:cN ms j=f:=by unfold cN;rw [eE hdj]
   have HL:=aa (nY K ms j);rw [hfl] at HL;clear q0 q1 q2 q3 hdj hfl;cases f
   . have HL2:Hid (dh K ms (j+1)=dh K ms j++[K j]):=HL.out
     have hkl:=ub K ms j;have L1:Hid ((dh K ms j).length+1<=maxLen):=by unfold Hid maxLen;omega
     have L2:Hid (((dh K ms j).length+1)*8<=140737488355328):=by unfold Hid;omega
     have HM:=aa hm;have HFP:=aa hfp;have HB:=aa hb;have hcf:∀w:World,Sem.run Tryz.prog (callFunc F (#[.int .i64 (j:Int)]++cap)) w=.ok (.enter F (#[.int .i64 (j:Int)]++cap)) w:=hen j;clear hm hfp hb HL hkl;go_wp2_with fail
     have bA:=Below.andThen HB.out (ae wr (.cells #[.slice a0 ss.length c0,.slice a1 cs.length c1,.bool false,.slice a3 bs.length c3] 101));refine (HOP.out j _ hjn bA).mono ?_
     rintro e w1 ⟨v,rfl,ov,b1⟩;obtain ⟨fpx,mx,rx⟩:=ov.mine;obtain ⟨F1,cp1,hv,_⟩:=mx.1;have hv':v=.func (Fn.func F1) #[] cp1:=by simpa using hv
     subst hv';have bw1:=Below.andThen (ae wr (.cells #[.slice a0 ss.length c0,.slice a1 cs.length c1,.bool false,.slice a3 bs.length c3] 101)) b1;have bB:=ae w1 (.cells #[.func (Fn.func F1) #[] cp1] 173);have zA:(wr.alloc (.cells #[.slice a0 ss.length c0,.slice a1 cs.length c1,.bool false,.slice a3 bs.length c3] 101)).heap.size=wr.heap.size+1:=by simp
     have z1:=b1.size;have z2:(w1.alloc (.cells #[.func (Fn.func F1) #[] cp1] 173)).heap.size=w1.heap.size+1:=by simp
     have M1:=aa ((HM.out.below bw1).alloc (.cells #[.func (Fn.func F1) #[] cp1] 173));have M2:=aa (mx.alloc (.cells #[.func (Fn.func F1) #[] cp1] 173));have NN:=aa (bk w1 #[.func (Fn.func F1) #[] cp1] 173);have hfl:=HM.out.lt;have DJ:Hid (∀b∈fp,b∉fpx):=fun b hb hb'=>by
      have h1:=hfl b hb;have h2:=rx b hb';omega
     have RX:=aa rx;have BB:=aa (Below.andThen bA (Below.andThen b1 bB));clear ov mx rx hv bA bw1 bB b1 hfl;go_wp2_with (at_builtin;refine bT (jI B) rfl _ _ 142 rfl 173 i4 .nilFunc 8 Tryz.underlying142 hi4 hz0 hz1 hz2 rfl Nat.zero_lt_one u5 (dh K ms j) fp rfl ?_ ⟨w1.heap.size,0,none⟩ 1 [.func (Fn.func F1) #[] cp1] (K j) fpx rfl ?_ ?_ ?_ ?_ ?_ ?_ ?_;exact M1.out;exact M2.out;exact DJ.out;exact NN.out;(intro u hu;simp at hu;rw [hu];rfl);exact L1.out;exact L2.out;intro v2 w2 fp2 m1 m2 m3;rw [←HL2.out] at m1;have N1:=aa m1;have N2:=aa m2;have N3:=aa m3;clear m1 m2 m3)
     have hf2:∀b∈fp2,w.heap.size<=b:=fun b hb=>by
      rcases N2.out b hb with h|h|h
      . exact HFP.out b h
      . have:=RX.out b h
        omega
      have h1:=h.1;omega
     have HBB:=aa (BB.out.trans (N3.out.below (N:=w.heap.size) (by omega) (fun b hb=>HFP.out b hb)));have HF2:=aa hf2;clear hf2;go_roundw
     case rel=>exact ⟨j+1,fp2,by omega,by go_num,N1.out,HF2.out,HBB.out⟩
     case measure=>simp [intOf];omega
   have HL2:Hid (dh K ms (j+1)=dh K ms j):=by unfold Hid;rw [HL.out,if_pos rfl,List.append_nil]
   have HM:=aa (hm.alloc (.cells #[.slice a0 ss.length c0,.slice a1 cs.length c1,.bool true,.slice a3 bs.length c3] 101));have HB:=aa (Below.andThen hb (ae wr (.cells #[.slice a0 ss.length c0,.slice a1 cs.length c1,.bool true,.slice a3 bs.length c3] 101)));have HFP:=aa hfp;clear hm hb hfp HL;go_wp2
   go_roundw
   case rel=>exact ⟨j+1,fp,by omega,by go_num,by rw [HL2.out];exact HM.out,HFP.out,HB.out⟩
   case measure=>simp [intOf];omega
 have e:j=ms.length:=by omega
 subst e;have hltb:=hm.lt;obtain ⟨bo,co,hv⟩:=az hm.rd;subst hv;have HO:=aa (hm.own (lo:=w.heap.size) (hi:=wr.heap.size) (fun b hb'=>⟨hfp b hb',hltb b hb'⟩));have i2:¬((ms.length:Int)<(ms.length:Int)):=by omega
 clear hm;go_wp2
 go_ret
 exact ⟨_,_,rfl,HO.out,hb⟩
theorem uV {x:al} {ms:List ai} {j:Nat} {s:Int} {d:ai} (h:ms[j]?=some d):cM x ms (j:Int) s=(!d.2.2.1&&(!decide ((j:Int)=x.lost)||decide (s<x.vG))):=by
 have hj:=(List.getElem?_eq_some_iff.1 h).1;unfold cM;rw [show inB (j:Int) 0 ((ms.length:Int)-1)=true from aI.2 (by omega),Int.toNat_natCast,List.getD_eq_getElem?_getD,h];rfl
theorem rY (w:World) (E:TypeId) (x:al) (ms:List ai) (j:Nat) (v:Value) (s:Int) (hd:DiskV w E x ms j v):
 Calls Tryz.prog 152 #[v,.int .i64 s] w fun e w'=>e=.returned (.bool (cM x ms (j:Int) s))/\Below w.heap.size w w':=by
 obtain ⟨a0,a1,a3,c0,c1,c3,ss,cs,f,bs,hj,r0,r1,r3,h⟩:=hd;have hl:=uV (x:=x) (s:=s) hj;rcases h with ⟨rfl,rfl⟩|⟨rfl,hx,rfl⟩|⟨rfl,hx,rfl⟩
 . refine (pe w s).mono ?_
   rintro e w' ⟨rfl,rfl⟩;exact ⟨ag (by rw [hl];rfl),Below.refl _ _⟩
 . refine (ra w _ _ _ _ _ _ _ _ _ _ _ _).mono ?_
   rintro e w' ⟨rfl,b⟩;exact ⟨ag (by rw [hl];simp [hx]),b⟩
 refine (pX w _ _ _ _ _ _ _ _ _ _ _).mono ?_
 rintro e w' ⟨rfl,b⟩;exact ⟨ag (by rw [hl];simp [hx]),b⟩
theorem lz (w:World) (E F G:TypeId) (x:al) (am ad:Option Addr) (nm cm nd cd:Nat) (ms:List ai) (ds:List (Int×List Int)) (m s:Int) (h0:(bt E F).Rd w [.slice am nm cm] ms) (_:(aU G).Rd w [.slice ad nd cd] ds) (hw:aM ms ds<=2097152):
 Calls Tryz.prog 218 #[.agg #[.int .i64 x.id,.int .i64 x.n,.int .i64 x.s,.slice am nm cm,.int .i64 x.lost,.int .i64 x.vG,.int .i64 x.seq,.int .i64 x.tail,.int .i64 x.gen,.slice ad nd cd,.int .i64 x.vI,.bool x.down,.bool x.vH],.int .i64 m,.int .i64 s] w fun e w'=>e=.returned (.bool (cM x ms m s))/\Below w.heap.size w w':=by
 have hwm:aV ms<=2097152:=by unfold aM at hw;omega
 obtain ⟨hl,hc,hm⟩:=af h0;have hA:=ae w (.cells #[.int .i64 x.id,.int .i64 x.n,.int .i64 x.s,.slice am nm cm,.int .i64 x.lost,.int .i64 x.vG,.int .i64 x.seq,.int .i64 x.tail,.int .i64 x.gen,.slice ad nd cd,.int .i64 x.vI,.bool x.down,.bool x.vH] 29);have X:=Box.new w 29 #[.int .i64 x.id,.int .i64 x.n,.int .i64 x.s,.slice am nm cm,.int .i64 x.lost,.int .i64 x.vG,.int .i64 x.seq,.int .i64 x.tail,.int .i64 x.gen,.slice ad nd cd,.int .i64 x.vI,.bool x.down,.bool x.vH];obtain ⟨k0,k1,k2,k3,k4,k5,k6,k7,k8,k9,k10,k11,k12⟩:=X.cells13;have r0:=h0.below hA;have zA:=X.lt;go_enter Tryz.func218,Tryz.ntmps218
 go_wp2_with fail
 generalize w.alloc (.cells #[.int .i64 x.id,.int .i64 x.n,.int .i64 x.s,.slice am nm cm,.int .i64 x.lost,.int .i64 x.vG,.int .i64 x.seq,.int .i64 x.tail,.int .i64 x.gen,.slice ad nd cd,.int .i64 x.vI,.bool x.down,.bool x.vH] 29)=W at hA X zA r0 k0 k1 k2 k3 k4 k5 k6 k7 k8 k9 k10 k11 k12 ⊢;refine (pV _ x _ _ _ _ _ _ m).mono ?_
 rintro e w1 ⟨rfl,b1⟩;have X1:=X.below b1 zA;have B1:=Below.andThen hA b1;have q1:=r0.below b1;clear k0 k1 k2 k3 k4 k5 k6 k7 k8 k9 k10 k11 k12 X b1 hA zA r0;obtain ⟨k0,k1,k2,k3,k4,k5,k6,k7,k8,k9,k10,k11,k12⟩:=X1.cells13;cases hi:inB m 0 ((nm:Int)-1)
 . have HF:Hid (cM x ms m s=false):=by unfold Hid cM;rw [hl,hi];rfl
   go_wp2
   go_ret
   exact ⟨ag HF.out.symm,B1⟩
 have hi2:=aI.1 hi;obtain ⟨j,rfl⟩:=Int.eq_ofNat_of_zero_le hi2.1;go_wp2_with fail
 refine (qY _ E F x _ _ _ _ _ _ ms j q1 hwm (by omega)).mono ?_
 rintro e w2 ⟨v,rfl,hd,b2⟩;have B2:=Below.andThen B1 b2;clear k0 k1 k2 k3 k4 k5 k6 k7 k8 k9 k10 k11 k12 X1 b2 B1 q1;go_wp2_with fail
 refine (rY _ E x ms j v s hd).mono ?_
 rintro e w3 ⟨rfl,b3⟩;have B3:=Below.andThen B2 b3;clear b3 B2 hd;go_wp2
 go_ret
 exact ⟨rfl,B3⟩
theorem jf (w:World) (B:Nat) (x:al) (ms:List ai) (ds:List (Int×List Int)) (fm fd:List Nat) (h:aD w B x ms ds fm fd) (hl:(ms.length:Int)=x.n) (hg:bF x.n x.s=true) (s:Int) (hs:inB s 0 (x.s-1)=true) (ar:Option Addr) (cr:Nat) (zs:List Int) (h5:aA.Rd w [.slice ar zs.length cr] zs) (hz:(zs.length:Int)=x.n-1) (hw:aM ms ds<=2097152):
 Calls Tryz.prog 168 #[.pointer (some ⟨B,0,none⟩),.int .i64 s,.slice ar zs.length cr] w fun e w'=>∃bo co,e=.returned (.slice bo (ee x ms s (bX x.n x.s s) zs ms.length).length co)/\(pq B).Own w' w.heap.size w'.heap.size [.slice bo (ee x ms s (bX x.n x.s s) zs ms.length).length co] (ee x ms s (bX x.n x.s s) zs ms.length)/\Below w.heap.size w w':=by
 obtain ⟨i4,hi4,hz0,hz1,hz2⟩:=info_parts Tryz.infoOp;have hN0:=aB.1 hg;have hzN:zs.length+1=ms.length:=by omega
 have HZN:=aa hzN;have hN5:ms.length<=5:=by omega
 have hzs:zs.length<=4:=by omega
 obtain ⟨bm,bd,cm,cd,X,hmm,hdd,hr,r1,r2⟩:=h;unfold aC at X;have zB:=X.lt;have bA:=ae w (.cells #[] 173);have ML:=aa (dJ (t:=jI B) (E:=173) w);have X0:=X.below bA zB;obtain ⟨k0,k1,k2,k3,k4,k5,k6,k7,k8,k9,k10,k11,k12⟩:=X0.cells13;have hsz:(w.alloc (.cells #[] 173)).heap.size=w.heap.size+1:=by simp
 have XH:=aa X;have MM:=aa hmm.rd;have DD:=aa hdd.rd;have R5:=aa (h5.below bA);have BA:=aa bA;have hxn:x.n=((ms.length:Nat):Int):=hl.symm;have hg2:bF ((ms.length:Nat):Int) x.s=true:=by rw [←hxn];exact hg
 have HP:Hid (bX x.n x.s s=bX ((ms.length:Nat):Int) x.s s):=by unfold Hid;rw [hxn]
 have HXN:=aa hxn;have kk1:=k1;rw [hxn] at kk1;clear hmm hdd X X0 h5 bA hxn k1 hl hz hzN hN0 hg;go_enter Tryz.func168,Tryz.ntmps168
 go_wp2_with fail
 refine (ly _ ms.length x.s s ar cr zs hg2 hs HZN.out R5.out).mono ?_
 rintro e W1 ⟨wb,rfl,ow,b1⟩;obtain ⟨fw,mw,rw1⟩:=ow.mine;have ML1:=aa (ML.out.below b1);have BB1:=aa (Below.andThen BA.out b1);have z1:=b1.size;have MW:=aa mw;have RW:=aa rw1;have hwl:(jd ms.length (bX ((ms.length:Nat):Int) x.s s) zs).length=ms.length:=by unfold jd;simp
 have HWL:=aa hwl;clear ow mw rw1 b1 ML BA R5 k0 k2 k3 k4 k5 k6 k7 k8 k9 k10 k11 k12 kk1 hwl;go_wp2
 go_loopw [7,19] (fun v i wr=>∃(j:Nat) (fp:List Nat),j<=ms.length/\i=.int .i64 j/\(pq B).Mine wr [v] (ee x ms s (bX x.n x.s s) zs j) fp/\(∀b∈fp,b=w.heap.size∨W1.heap.size<=b)/\aA.Mine wr [.slice (some ⟨wb,0,none⟩) ms.length ms.length] (jd ms.length (bX ((ms.length:Nat):Int) x.s s) zs) fw/\Below w.heap.size w wr/\W1.heap.size<=wr.heap.size) (fun _ i _=>ms.length-(intOf i).toNat)
 case atStart=>exact ⟨0,[w.heap.size],Nat.zero_le _,rfl,ML1.out,by simp,MW.out,BB1.out,Nat.le_refl _⟩
 obtain ⟨j,fp,hj,rfl,hm,hfp,hmw,hb,hzr⟩:=hrel;have hs0:=hb.size;by_cases hjn:j<ms.length
 . have i2:(j:Int)<(ms.length:Int):=by omega
   have i1:(0:Int)<=(j:Int):=by omega
   rcases (aP hmw.rd).1.cases with h0|⟨b,off,hbo,hbl,hcz⟩
   . rw [HWL.out] at h0;omega
   simp at hbo
   obtain ⟨rfl,rfl⟩:=hbo;have hcj:=hcz j (by rw [HWL.out];exact hjn);rw [Nat.zero_add] at hcj;have hgd:(jd ms.length (bX ((ms.length:Nat):Int) x.s s) zs).getD j 0=gf x.n (bX x.n x.s s) zs j:=by
    rw [HP.out];unfold jd;rw [List.getD_eq_getElem?_getD,List.getElem?_map,List.getElem?_range hjn,←HXN.out];rfl
   rw [hgd] at hcj;have HL:=aa (mj x ms s (bX x.n x.s s) zs j);generalize gf x.n (bX x.n x.s s) zs j=y at hcj HL;have xr:=XH.out.below hb zB;obtain ⟨k0,k1,k2,k3,k4,k5,k6,k7,k8,k9,k10,k11,k12⟩:=xr.cells13;have HM:=aa hm;have HFP:=aa hfp;have HMW:=aa hmw;have HB:=aa hb;have rm:=MM.out.below hb;have rd:=DD.out.below hb;clear hm hfp hmw hb hcz hgd xr;go_wp2_with fail
   refine (lz _ 171 101 90 x _ _ _ _ _ _ ms ds (j:Int) s rm rd hw).mono ?_
   rintro e w1 ⟨rfl,b1⟩;have z1b:=b1.size;have M1:=aa (HM.out.below b1);have W1m:=aa (HMW.out.below b1);have BB:=aa (HB.out.trans (b1.mono hs0));have hfl0:=HM.out.lt;have FLT:=aa hfl0;clear k0 k1 k2 k3 k4 k5 k6 k7 k8 k9 k10 k11 k12 HM HMW HB b1 rm rd hcj hfl0;cases hlv:cM x ms (j:Int) s
   . have HL2:Hid (ee x ms s (bX x.n x.s s) zs (j+1)=ee x ms s (bX x.n x.s s) zs j):=by unfold Hid;rw [HL.out,hlv,if_neg (by simp),List.append_nil]
     clear hlv HL;go_wp2
     go_roundw
     case rel=>exact ⟨j+1,fp,by omega,by go_num,by rw [HL2.out];exact M1.out,HFP.out,W1m.out,BB.out,by omega⟩
     case measure=>simp [intOf];omega
   have HL2:Hid (ee x ms s (bX x.n x.s s) zs (j+1)=ee x ms s (bX x.n x.s s) zs j++[wrK (bV s) [y] j]):=by unfold Hid;rw [HL.out,hlv,if_pos rfl]
   clear hlv HL;have osec:=aR (bj.lit .i64 3 w1 [y] 1 #[.int .i64 y] rfl rfl (by unfold maxLen;omega));obtain ⟨fs,msec,rs⟩:=osec.mine;have bs:=ae w1 (.cells #[.int .i64 y] 3);have zs1:(w1.alloc (.cells #[.int .i64 y] 3)).heap.size=w1.heap.size+1:=by simp
   have hkl:=sT x ms s (bX x.n x.s s) zs j;have L1:Hid ((ee x ms s (bX x.n x.s s) zs j).length+1<=maxLen):=by unfold Hid maxLen;omega
   have L2:Hid (((ee x ms s (bX x.n x.s s) zs j).length+1)*8<=140737488355328):=by unfold Hid;omega
   have MSEC:Hid (aA.Mine (w1.alloc (.cells #[.int .i64 y] 3)) [.slice (some ⟨w1.heap.size,0,none⟩) ([y]:List Int).length 1] [y] fs):=msec;have RS:=aa rs;have BS:=aa bs;clear osec msec rs bs hkl;go_wp2_with fail
   refine (iS _ s).mono ?_
   rintro e w1d ⟨rfl,hwd⟩;subst hwd;go_wp2_with fail
   refine (ln _ B j (bV s) _ _ [y] fs MSEC.out (by simp)).mono ?_
   rintro e w3 ⟨v,fpx,rfl,mx,rx0,b3⟩;have z3:=b3.size;have rx:∀b∈fpx,w1d.heap.size<=b/\b<w3.heap.size:=fun b hb=>by
    rcases rx0 b hb with h|h
    . have:=RS.out b h;omega
    omega
   obtain ⟨F1,cp1,hv,_⟩:=mx.1;have hv':v=.func (Fn.func F1) #[] cp1:=by simpa using hv
   subst hv';have b13:=Below.andThen BS.out b3;have z2:(w3.alloc (.cells #[.func (Fn.func F1) #[] cp1] 173)).heap.size=w3.heap.size+1:=by simp
   have N1:=aa ((M1.out.below b13).alloc (.cells #[.func (Fn.func F1) #[] cp1] 173));have NW:=aa ((W1m.out.below b13).alloc (.cells #[.func (Fn.func F1) #[] cp1] 173));have N2:=aa (mx.alloc (.cells #[.func (Fn.func F1) #[] cp1] 173));have NN:=aa (bk w3 #[.func (Fn.func F1) #[] cp1] 173);have DJ:Hid (∀b∈fp,b∉fpx):=fun b hb hb'=>by
    have h1:=FLT.out b hb;have h2:=rx b hb';omega
   have RX:=aa rx;have BB3:=aa (Below.andThen (Below.andThen BB.out b13) (ae w3 (.cells #[.func (Fn.func F1) #[] cp1] 173)));clear mx rx rx0 hv b3 b13 M1 W1m BB BS MSEC RS;go_wp2_with (at_builtin;refine bT (jI B) rfl _ _ 142 rfl 173 i4 .nilFunc 8 Tryz.underlying142 hi4 hz0 hz1 hz2 rfl Nat.zero_lt_one u7 (ee x ms s (bX x.n x.s s) zs j) fp rfl ?_ ⟨w3.heap.size,0,none⟩ 1 [.func (Fn.func F1) #[] cp1] (wrK (bV s) [y] j) fpx rfl ?_ ?_ ?_ ?_ ?_ ?_ ?_;exact N1.out;exact N2.out;exact DJ.out;exact NN.out;(intro u hu;simp at hu;rw [hu];rfl);exact L1.out;exact L2.out;intro v2 w2 fp2 m1 m2 m3;rw [←HL2.out] at m1;have O1:=aa m1;have O2:=aa m2;have O3:=aa m3;clear m1 m2 m3)
   have hf2:∀b∈fp2,b=w.heap.size∨W1.heap.size<=b:=fun b hb=>by
    rcases O2.out b hb with h|h|h
    . exact HFP.out b h
    . have:=RX.out b h;exact .inr (by omega)
    have h1:=h.1;exact .inr (by omega)
   have hbb:=BB3.out.trans (O3.out.below (N:=w.heap.size) (by omega) (fun b hb=>by rcases HFP.out b hb with h|h<;>omega));have hnw:=NW.out.kept O3.out (fun b hb hm=>by
    have h1:=RW.out b hb;rcases HFP.out b hm with h|h<;>omega)
   have hz4:=O3.out.size;have HBB:=aa hbb;have HNW:=aa hnw;have HF2:=aa hf2;clear hbb hnw hf2;go_roundw
   case rel=>exact ⟨j+1,fp2,by omega,by go_num,O1.out,HF2.out,HNW.out,HBB.out,by omega⟩
   case measure=>simp [intOf];omega
 have e:j=ms.length:=by omega
 subst e;have hltb:=hm.lt;obtain ⟨bo,co,hv⟩:=az hm.rd;subst hv;have HO:=aa (hm.own (lo:=w.heap.size) (hi:=wr.heap.size) (fun b hb'=>⟨by rcases hfp b hb' with h|h<;>omega,hltb b hb'⟩));have i2:¬((ms.length:Int)<(ms.length:Int)):=by omega
 clear hm hmw;go_wp2
 go_ret
 exact ⟨_,_,rfl,HO.out,hb⟩
theorem nh (w:World) (B p r m:Nat) (sq st:Int) (ar:Option Addr) (cr:Nat) (zs:List Int) (hp:Box w p 79 #[.pointer (some ⟨B,0,none⟩)]) (hr:Box w r 140 #[.int .i64 sq,.int .i64 st,.slice ar zs.length cr]) (h5:aA.Rd w [.slice ar zs.length cr] zs) (hl:zs.length<=2000000):Calls Tryz.prog 252 #[.int .i64 (m:Int),.pointer (some ⟨p,0,none⟩),.pointer (some ⟨r,0,none⟩)] w fun e w'=>∃v,e=.returned v/\(jI B).Own w' w.heap.size w'.heap.size [v] (wrK (cD sq) (ep sq st zs) m)/\Below w.heap.size w w':=by
 have zp:=hp.lt;have zr:=hr.lt;have cp:=hp.cell 0;have k0:=hr.cell 0;have k1:=hr.cell 1;have k2:=hr.cell 2;have hS:w.drew.cell? ⟨p,0,none⟩=some (.pointer (some ⟨B,0,none⟩))/\w.drew.cell? ⟨r,0,none⟩=some (.int .i64 sq)/\w.drew.cell? ⟨r,1,none⟩=some (.int .i64 st)/\w.drew.cell? ⟨r,2,none⟩=some (.slice ar zs.length cr):=⟨cp,k0,k1,k2⟩;have R5:=aa h5;have hpl:=pT sq st zs;clear hp hr h5;go_enter Tryz.func252,Tryz.ntmps252
 go_wp2_with fail
 refine ah.start (S:=fun w'=>w'.cell? ⟨p,0,none⟩=some (.pointer (some ⟨B,0,none⟩))/\w'.cell? ⟨r,0,none⟩=some (.int .i64 sq)/\w'.cell? ⟨r,1,none⟩=some (.int .i64 st)/\w'.cell? ⟨r,2,none⟩=some (.slice ar zs.length cr)) (k:=8) (by kernel_rfl) ?_
 refine ah.t 0 hS ?_
 refine ah.t 1 hS ?_
 refine ah.t 2 hS ?_
 refine ah.t 3 hS ?_
 refine ah.t 5 hS ?_
 refine ah.one (i:=4) (by kernel_rfl) rfl (fun K hK=>?_)
 go_simp
 refine (lX _ sq).mono ?_
 rintro e w1 ⟨rfl,hw1⟩;subst hw1;go_wp2_with fail
 refine hK.out _ _ (fun _=>hS) ?_
 clear hK K;refine ah.one (i:=6) (by kernel_rfl) rfl (fun K hK=>?_)
 go_simp
 refine (mg _ sq st _ _ _ zs rfl (aP R5.out.drew).1 (by omega)).mono ?_
 rintro e w2 ⟨a6,l6,c6,rfl,o6,b2'⟩;have b2:Below w.heap.size w w2:=(Below.refl w.heap.size w).drew.trans b2';have o6b:aA.Own w2 w.heap.size w2.heap.size [.slice a6 l6 c6] (ep sq st zs):=o6;obtain ⟨hl6,_⟩:=af o6b.rd;subst hl6;obtain ⟨fs,ms6,rs⟩:=o6b.mine;have MS:=aa ms6;have RS:=aa rs;have B2:=aa b2;have z2:=b2.size;have hS2:w2.cell? ⟨p,0,none⟩=some (.pointer (some ⟨B,0,none⟩))/\w2.cell? ⟨r,0,none⟩=some (.int .i64 sq)/\w2.cell? ⟨r,1,none⟩=some (.int .i64 st)/\w2.cell? ⟨r,2,none⟩=some (.slice ar zs.length cr):=⟨(b2.cell (p:=⟨p,0,none⟩) zp).trans cp,(b2.cell (p:=⟨r,0,none⟩) zr).trans k0,(b2.cell (p:=⟨r,1,none⟩) zr).trans k1,(b2.cell (p:=⟨r,2,none⟩) zr).trans k2⟩;clear o6 o6b ms6 rs b2 b2' hS cp k0 k1 k2 R5;go_wp2_with fail
 refine hK.out _ _ (fun _=>hS2) ?_
 clear hK K;refine ah.one (i:=7) (by kernel_rfl) rfl (fun K hK=>?_)
 go_simp
 refine (ln _ B m (cD sq) _ _ (ep sq st zs) fs MS.out (by omega)).mono ?_
 rintro e w3 ⟨v,fp,rfl,mv,rv,b3⟩;have z3:=b3.size;have HO:=aa (mv.own (lo:=w.heap.size) (hi:=w3.heap.size) (fun b hb=>by
  rcases rv b hb with h|h
  . have:=RS.out b h
    omega
  omega))
 have HB:=aa (Below.andThen B2.out b3);have hS3:w3.cell? ⟨p,0,none⟩=some (.pointer (some ⟨B,0,none⟩))/\w3.cell? ⟨r,0,none⟩=some (.int .i64 sq)/\w3.cell? ⟨r,1,none⟩=some (.int .i64 st)/\w3.cell? ⟨r,2,none⟩=some (.slice ar zs.length cr):=⟨(b3.cell (p:=⟨p,0,none⟩) (show p<w2.heap.size by omega)).trans hS2.1,(b3.cell (p:=⟨r,0,none⟩) (show r<w2.heap.size by omega)).trans hS2.2.1,(b3.cell (p:=⟨r,1,none⟩) (show r<w2.heap.size by omega)).trans hS2.2.2.1,(b3.cell (p:=⟨r,2,none⟩) (show r<w2.heap.size by omega)).trans hS2.2.2.2⟩;clear mv rv b3 MS RS B2 hS2;go_wp2_with fail
 refine hK.out _ _ (fun _=>hS3) ?_
 clear hK K;refine ah.one (i:=8) (by kernel_rfl) rfl (fun K hK=>?_)
 go_simp
 refine hK.out _ _ (fun h=>absurd rfl h) ?_
 clear hK K;refine ah.done (by kernel_rfl) ?_ _
 clear hS3;go_wp2
 go_ret
 exact ⟨_,rfl,HO.out,HB.out⟩
theorem nD (w:World) (B:Nat) (x:al) (ms:List ai) (ds:List (Int×List Int)) (fm fd:List Nat) (h:aD w B x ms ds fm fd) (hl:ms.length<=2097152) (sq st:Int) (ar:Option Addr) (cr:Nat) (zs:List Int) (h5:aA.Rd w [.slice ar zs.length cr] zs) (hz:zs.length<=2000000):Calls Tryz.prog 215 #[.pointer (some ⟨B,0,none⟩),.agg #[.int .i64 sq,.int .i64 st,.slice ar zs.length cr]] w fun e w'=>∃bo co,e=.returned (.slice bo (dh (wrK (cD sq) (ep sq st zs)) ms ms.length).length co)/\(pq B).Own w' w.heap.size w'.heap.size [.slice bo (dh (wrK (cD sq) (ep sq st zs)) ms ms.length).length co] (dh (wrK (cD sq) (ep sq st zs)) ms ms.length)/\Below w.heap.size w w':=by
 have hmf:∀(fn:Fn) (first cap:Array Value) (w:World),(Instr.makeFunc fn first cap).run Tryz.prog w=.ok (.func fn first cap) w:=fun _ _ _ _=>rfl;have bA:Below w.heap.size w ((w.alloc (.cells #[.pointer (some ⟨B,0,none⟩)] 79)).alloc (.cells #[.int .i64 sq,.int .i64 st,.slice ar zs.length cr] 140)):=(ae w _).alloc (by simp) _;have bx:Box ((w.alloc (.cells #[.pointer (some ⟨B,0,none⟩)] 79)).alloc (.cells #[.int .i64 sq,.int .i64 st,.slice ar zs.length cr] 140)) w.heap.size 79 #[.pointer (some ⟨B,0,none⟩)]:=(Box.new w _ _).alloc _;have br:=Box.new (w.alloc (.cells #[.pointer (some ⟨B,0,none⟩)] 79)) 140 #[.int .i64 sq,.int .i64 st,.slice ar zs.length cr];rw [World.size_alloc] at br;have HA:=aa ((h.alloc (.cells #[.pointer (some ⟨B,0,none⟩)] 79)).alloc (.cells #[.int .i64 sq,.int .i64 st,.slice ar zs.length cr] 140));have hsz:((w.alloc (.cells #[.pointer (some ⟨B,0,none⟩)] 79)).alloc (.cells #[.int .i64 sq,.int .i64 st,.slice ar zs.length cr] 140)).heap.size=w.heap.size+1+1:=by simp
 have R5:=aa (h5.below bA);clear h h5;go_enter Tryz.func215,Tryz.ntmps215
 go_wp2_with fail
 refine (kO _ B x ms ds fm fd HA.out hl (wrK (cD sq) (ep sq st zs)) 252 #[.pointer (some ⟨w.heap.size,0,none⟩),.pointer (some ⟨w.heap.size+1,0,none⟩)] (fun m=>dz Tryz.func252 (by kernel_rfl) (by kernel_rfl) _) (fun m w' hm hb=>?_)).mono ?_
 . exact nh w' B _ _ m sq st ar cr zs (bx.below hb bx.lt) (br.below hb br.lt) (R5.out.below hb) hz
 rintro e w1 ⟨bo,co,rfl,oo,b1⟩;have OO:=aa (oo.widen (lo':=w.heap.size) (hi':=w1.heap.size) (by omega) (Nat.le_refl _));have B1:=aa (Below.andThen bA b1);clear oo b1 bA bx br;go_wp2
 go_ret
 exact ⟨_,_,rfl,OO.out,B1.out⟩
theorem nE (w:World) (B p q m:Nat) (hp:Box w p 79 #[.pointer (some ⟨B,0,none⟩)]) (hq:Box w q 3 #[.int .i64 (m:Int)]):nf B [p,q] 260 #[.pointer (some ⟨p,0,none⟩),.pointer (some ⟨q,0,none⟩)] (eQ m) w:=by
 intro x ms ds fm fd hA hM hdis hlt;dsimp only [eQ] at hlt
 obtain ⟨bm,bd,cm,cd,X,hmm,hdd,hr,r1,r2⟩:=hA;have hm63:=(af hmm.rd).2;obtain ⟨g,rfl⟩:=bU hmm (by omega);have hdj:ms[m]?=some (ms[m]'(by omega)):=List.getElem?_eq_getElem (by omega);generalize ms[m]'(by omega)=d at hdj;have hgm:ms.getD m gZ=d:=eE hdj;obtain ⟨hgl,a0,a1,a3,c0,c1,c3,ss,cs,f,bs,rfl,q0,q1,q2,q3,p0,p1,p3⟩:=dM hmm hdj;have X0:=X;unfold aC at X0;obtain ⟨k0,k1,k2,k3,k4,k5,k6,k7,k8,k9,k10,k11,k12⟩:=X0.cells13;have zp:=hp.lt;have cp:=hp.cell 0;have zq:=hq.lt;have cq:=hq.cell 0;have hwt:=du (hM m _ hdj) f;dsimp only at hwt
 have zB:=X.lt;have XH:=aa X;have MH:=aa hmm;have DH:=aa hdd;have R0:=aa p0;have R1:=aa p1;have R3:=aa p3;have HG:=aa hgm;have hS:w.drew.cell? ⟨p,0,none⟩=some (.pointer (some ⟨B,0,none⟩))/\w.drew.cell? ⟨q,0,none⟩=some (.int .i64 (m:Int))/\w.drew.cell? ⟨B,3,none⟩=some (.slice (some ⟨g,0,none⟩) ms.length cm)/\w.drew.cell? ⟨g,m*4,none⟩=some (.slice a0 ss.length c0)/\w.drew.cell? ⟨g,m*4+1,none⟩=some (.slice a1 cs.length c1)/\w.drew.cell? ⟨g,m*4+2,none⟩=some (.bool f)/\w.drew.cell? ⟨g,m*4+3,none⟩=some (.slice a3 bs.length c3):=⟨cp,cq,k3,q0,q1,q2,q3⟩;have i1:(0:Int)<=(m:Int):=by omega
 have i3:(m:Int)<(ms.length:Int):=by omega
 clear X X0 hmm hdd p0 p1 p3 hM hdj hgm hdis;go_enter Tryz.func260,Tryz.ntmps260
 go_wp2_with fail
 refine ah.start (S:=fun w'=>w'.cell? ⟨p,0,none⟩=some (.pointer (some ⟨B,0,none⟩))/\w'.cell? ⟨q,0,none⟩=some (.int .i64 (m:Int))/\w'.cell? ⟨B,3,none⟩=some (.slice (some ⟨g,0,none⟩) ms.length cm)/\w'.cell? ⟨g,m*4,none⟩=some (.slice a0 ss.length c0)/\w'.cell? ⟨g,m*4+1,none⟩=some (.slice a1 cs.length c1)/\w'.cell? ⟨g,m*4+2,none⟩=some (.bool f)/\w'.cell? ⟨g,m*4+3,none⟩=some (.slice a3 bs.length c3)) (k:=14) (by kernel_rfl) ?_
 refine ah.t 0 hS ?_
 refine ah.t 1 hS ?_
 refine ah.t 2 hS ?_
 refine ah.t 3 hS ?_
 refine ah.t 4 hS ?_
 refine ah.t 5 hS ?_
 refine ah.t 6 hS ?_
 refine ah.t 7 hS ?_
 refine ah.t 8 hS ?_
 refine ah.t 9 hS ?_
 refine ah.t 10 hS ?_
 refine ah.t 11 hS ?_
 refine ah.one (i:=12) (by kernel_rfl) rfl (fun K hK=>?_)
 go_simp
 refine (kr _ 171 _ _ _ _ _ _ _ _ _ ss cs f bs R0.out.drew R1.out.drew R3.out.drew (by omega)).mono ?_
 rintro e w2 ⟨u0,u1,u3,rfl,o2,b2'⟩;have b2:Below w.heap.size w w2:=(Below.refl w.heap.size w).drew.trans b2';have o2b:(bR 171).Own w2 w.heap.size w2.heap.size [u0,u1,.bool f,u3] _:=o2;obtain ⟨d0,l0,f0,d1,l1,f1,d3,l3,f3,hv0,hv1,hv3⟩:=bS o2b;subst hv0 hv1 hv3;obtain ⟨fpx,mx,rx⟩:=o2b.mine;obtain ⟨cOld,fz,hgm,fm9,hA9,hMv9⟩:=eu (m:=m) XH.out MH.out DH.out hr r1 r2 b2 (by omega) mx (fun b hb=>(rx b hb).1);obtain ⟨o0,t0⟩:=cOld 0 (by omega);obtain ⟨o1,t1⟩:=cOld 1 (by omega);obtain ⟨o2',t2⟩:=cOld 2 (by omega);obtain ⟨o3,t3⟩:=cOld 3 (by omega);rw [Nat.add_zero] at t0;have HA:=aa hA9;have HMV:=aa hMv9;have hS2:w2.cell? ⟨p,0,none⟩=some (.pointer (some ⟨B,0,none⟩))/\w2.cell? ⟨q,0,none⟩=some (.int .i64 (m:Int))/\w2.cell? ⟨B,3,none⟩=some (.slice (some ⟨g,0,none⟩) ms.length cm)/\w2.cell? ⟨g,m*4,none⟩=some (.slice a0 ss.length c0)/\w2.cell? ⟨g,m*4+1,none⟩=some (.slice a1 cs.length c1)/\w2.cell? ⟨g,m*4+2,none⟩=some (.bool f)/\w2.cell? ⟨g,m*4+3,none⟩=some (.slice a3 bs.length c3):=⟨(b2.cell (p:=⟨p,0,none⟩) zp).trans cp,(b2.cell (p:=⟨q,0,none⟩) zq).trans cq,(b2.cell (p:=⟨B,3,none⟩) zB).trans k3,(b2.cell (p:=⟨g,m*4,none⟩) hgl).trans q0,(b2.cell (p:=⟨g,m*4+1,none⟩) hgl).trans q1,(b2.cell (p:=⟨g,m*4+2,none⟩) hgl).trans q2,(b2.cell (p:=⟨g,m*4+3,none⟩) hgl).trans q3⟩;have gB:¬g=B:=fun e=>r1 (e▸hgm);unfold fi at HA HMV;clear cp cq k3 q0 q1 q2 q3 o2 o2b b2 b2' mx rx cOld hA9 hMv9 XH MH DH R0 R1 R3 hwt;go_wp2_with fail
 refine hK.out _ _ (fun _=>hS2) ?_
 clear hK K;refine ah.t 13 hS2 ?_
 refine ah.one (i:=14) (by kernel_rfl) rfl (fun K hK=>?_)
 go_simp
 refine hK.out _ _ (fun h=>absurd rfl h) ?_
 clear hK K;refine ah.done (by kernel_rfl) ?_ _
 clear hS hS2 t0 t1 t2 t3 fz;go_wp2
 refine bodyPost_end (v:=.tuple #[]) (results_none rfl _ _ _) rfl ?_
 refine ⟨rfl,fm9,?_,HMV.out⟩
 show aD _ B x (ms.set m (opF (eQ m) x (ms.getD m gZ))) ds fm9 fd
 rw [HG.out];exact HA.out
theorem qC (w:World) (B m:Nat):Calls Tryz.prog 227 #[.pointer (some ⟨B,0,none⟩),.int .i64 (m:Int)] w fun e w'=>∃v,e=.returned v/\(jI B).Own w' w.heap.size w'.heap.size [v] (eQ m)/\Below w.heap.size w w':=by
 have hmf:∀(fn:Fn) (first cap:Array Value) (w:World),(Instr.makeFunc fn first cap).run Tryz.prog w=.ok (.func fn first cap) w:=fun _ _ _ _=>rfl;have hb:Below w.heap.size w ((w.alloc (.cells #[.pointer (some ⟨B,0,none⟩)] 79)).alloc (.cells #[.int .i64 (m:Int)] 3)):=((Below.refl _ _).alloc (Nat.le_refl _) _).alloc (by simp) _;have b0:Box ((w.alloc (.cells #[.pointer (some ⟨B,0,none⟩)] 79)).alloc (.cells #[.int .i64 (m:Int)] 3)) w.heap.size 79 #[.pointer (some ⟨B,0,none⟩)]:=(Box.new w _ _).alloc _;have b1:=Box.new (w.alloc (.cells #[.pointer (some ⟨B,0,none⟩)] 79)) 3 #[.int .i64 (m:Int)];rw [World.size_alloc] at b1;have hsz:((w.alloc (.cells #[.pointer (some ⟨B,0,none⟩)] 79)).alloc (.cells #[.int .i64 (m:Int)] 3)).heap.size=w.heap.size+1+1:=by simp
 have HO:Hid ((jI B).Own ((w.alloc (.cells #[.pointer (some ⟨B,0,none⟩)] 79)).alloc (.cells #[.int .i64 (m:Int)] 3)) w.heap.size ((w.alloc (.cells #[.pointer (some ⟨B,0,none⟩)] 79)).alloc (.cells #[.int .i64 (m:Int)] 3)).heap.size [.func (Fn.func 260) #[] #[.pointer (some ⟨w.heap.size,0,none⟩),.pointer (some ⟨w.heap.size+1,0,none⟩)]] (eQ m)):=by
  refine ⟨[w.heap.size,w.heap.size+1],⟨260,_,rfl,?_,?_,fun w' hk hs=>?_⟩,?_,?_⟩
  . exact dz Tryz.func260 (by kernel_rfl) (by kernel_rfl) _
  . intro b hb';simp at hb';omega
  . exact nE w' B _ _ m (b0.kept (hk _ (by simp))) (b1.kept (hk _ (by simp)))
  . simp
  intro b hb';simp at hb';omega
 have HB:=aa hb;clear hb b0 b1 hsz;go_enter Tryz.func227,Tryz.ntmps227
 go_wp2
 go_ret
 exact ⟨_,rfl,HO.out,HB.out⟩
theorem pr (w:World) (B p m:Nat) (hp:Box w p 79 #[.pointer (some ⟨B,0,none⟩)]):Calls Tryz.prog 226 #[.int .i64 (m:Int),.pointer (some ⟨p,0,none⟩)] w fun e w'=>∃v,e=.returned v/\(jI B).Own w' w.heap.size w'.heap.size [v] (eQ m)/\Below w.heap.size w w':=by
 have c0:w.cell? ⟨p,0,none⟩=some (.pointer (some ⟨B,0,none⟩)):=hp.cell 0;go_enter Tryz.func226,Tryz.ntmps226
 go_wp2_with fail
 refine (qC _ B m).mono ?_
 rintro e w1 ⟨v,rfl,ov,b1⟩;have OV:=aa ov;have B1:=aa b1;clear ov b1;go_wp2
 go_ret
 exact ⟨_,rfl,OV.out,B1.out⟩
theorem qD (w:World) (B:Nat) (x:al) (ms:List ai) (ds:List (Int×List Int)) (fm fd:List Nat) (h:aD w B x ms ds fm fd) (hl:ms.length<=2097152):Calls Tryz.prog 174 #[.pointer (some ⟨B,0,none⟩)] w fun e w'=>∃bo co,e=.returned (.slice bo (dh eQ ms ms.length).length co)/\(pq B).Own w' w.heap.size w'.heap.size [.slice bo (dh eQ ms ms.length).length co] (dh eQ ms ms.length)/\Below w.heap.size w w':=by
 have hmf:∀(fn:Fn) (first cap:Array Value) (w:World),(Instr.makeFunc fn first cap).run Tryz.prog w=.ok (.func fn first cap) w:=fun _ _ _ _=>rfl;have bA:=ae w (.cells #[.pointer (some ⟨B,0,none⟩)] 79);have bx:=Box.new w 79 #[.pointer (some ⟨B,0,none⟩)];have HA:=aa (h.alloc (.cells #[.pointer (some ⟨B,0,none⟩)] 79));have hlt:=bx.lt;clear h;go_enter Tryz.func174,Tryz.ntmps174
 go_wp2_with fail
 refine (kO _ B x ms ds fm fd HA.out hl eQ 226 #[.pointer (some ⟨w.heap.size,0,none⟩)] (fun m=>dz Tryz.func226 (by kernel_rfl) (by kernel_rfl) _) (fun m w' hm hb=>?_)).mono ?_
 . exact pr w' B _ m (bx.below hb hlt)
 rintro e w1 ⟨bo,co,rfl,oo,b1⟩;have OO:=aa (oo.widen (lo':=w.heap.size) (hi':=w1.heap.size) (by simp) (Nat.le_refl _));have B1:=aa (Below.andThen bA b1);clear oo b1 bA bx;go_wp2
 go_ret
 exact ⟨_,_,rfl,OO.out,B1.out⟩
theorem eZ (w:World) (B:Nat) (x:al) (ms:List ai) (ds:List (Int×List Int)) (fm fd:List Nat) (h:aD w B x ms ds fm fd) (hf:x.vI<=1000) (hdn:x.down=false) (hM:bM ms) (hl:ms.length<=2097152):Calls Tryz.prog 99 #[.pointer (some ⟨B,0,none⟩)] w (Did w B fm ds fd (aS (x,ms) ms.length)):=by
 have HA:=aa h;have HR:Hid (dx (x,ms) (dh eQ ms ms.length)=aS (x,ms) ms.length):=uc (x,ms) ms.length;have HF:Hid (x.vI<=1000/\x.down=false):=⟨hf,hdn⟩;have hlB:=h.lt;have hlm:=h.ltm.1;clear h hf hdn;go_enter Tryz.func99,Tryz.ntmps99
 go_wp2_with fail
 refine (qD _ B x ms ds fm fd HA.out hl).mono ?_
 rintro e w1 ⟨bo,co,rfl,oo,b1⟩;obtain ⟨fo,mo,ro⟩:=oo.mine;have HP:=aa (fv w1 B x ms ds fm fd (HA.out.below b1) HF.out.1 HF.out.2 hM bo co (dh eQ ms ms.length) fo mo (fun b hb=>⟨fun e=>by have:=(ro b hb).1;omega,fun hm=>by have h1:=(ro b hb).1;have h2:=hlm b hm;omega⟩) (fun o ho=>by
  obtain ⟨i,hi,hfl,rfl⟩:=lT ho;exact ⟨hi,hfl⟩))
 have MB:=aa ((aJ.refl B fm w).below b1);clear oo mo ro b1 hlm;go_wp2_with fail
 refine HP.out.mono ?_
 rintro e w2 hd;rw [HR.out] at hd;obtain ⟨he,fm2,hA2,hMv2⟩:=hd;have HD:Hid (Did w B fm ds fd (aS (x,ms) ms.length) e w2):=⟨he,fm2,hA2,MB.out.trans hMv2⟩;unfold cB at he;clear hA2 hMv2 HR;cases hst:(aS (x,ms) ms.length).1.down
 . rw [if_neg (by simp [hst])] at he
   subst he;clear hst;go_wp2
   refine bodyPost_end (v:=.tuple #[]) (results_none rfl _ _ _) rfl ?_
   exact HD.out
 rw [if_pos hst] at he;subst he;clear hst;go_wp2
 exact ⟨rfl,HD.out⟩
end Go.Proofs.YtejeekndbnpmoaaGreat
