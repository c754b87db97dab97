/-
 The walk of the specification's ArrNew: a new array in memory of its own. No condition.
-/
import Derived.Test.YtgjomldcnjjpaaaGreatRowArrsSq44
import Derived.Test.YtgjomldcnjjpaaaGreatRowArrsSq15
import Derived.Test.YtgjomldcnjjpaaaGreatRowArrsSq5
import Derived.Test.YtgjomldcnjjpaaaGreatRowArrsSq16

set_option maxRecDepth 100000
set_option maxHeartbeats 8000000
set_option linter.unusedSimpArgs false

namespace Go.Proofs.YtgjomldcnjjpaaaGreat
open Go.RowKit

theorem jp (w:World) (id n s:Int):
 Calls Tryz.prog 14 #[.int .i64 id,.agg #[.int .i64 n,.int .i64 s]] w fun e w'=>∃am cm,e=.returned (.agg #[.int .i64 (dM id n s).id,.int .i64 (dM id n s).n,.int .i64 (dM id n s).s,.slice am (dr id n s).length cm,.int .i64 (dM id n s).lost,.int .i64 (dM id n s).xW,.int .i64 (dM id n s).seq,.int .i64 (dM id n s).tail,.int .i64 (dM id n s).gen,.slice none 0 0,.int .i64 (dM id n s).xY,.bool (dM id n s).down,.bool (dM id n s).xX])/\(bI 119 55).Own w' w.heap.size w'.heap.size [.slice am (dr id n s).length cm] (dr id n s)/\Below w.heap.size w w':=by
 obtain ⟨i4,hi4,hz0,hz1,hz2⟩:=info_parts Tryz.infoMem;have hA:=(af w (.cells #[.int .i64 n,.int .i64 s] 25)).alloc (by simp) (.cells #[.int .i64 0,.int .i64 0,.int .i64 0,.slice none 0 0,.int .i64 0,.int .i64 0,.int .i64 0,.int .i64 0,.int .i64 0,.slice none 0 0,.int .i64 0,.bool false,.bool false] 31);have G0:bK ((w.alloc (.cells #[.int .i64 n,.int .i64 s] 25)).alloc (.cells #[.int .i64 0,.int .i64 0,.int .i64 0,.slice none 0 0,.int .i64 0,.int .i64 0,.int .i64 0,.int .i64 0,.int .i64 0,.slice none 0 0,.int .i64 0,.bool false,.bool false] 31)) w.heap.size 25 n s:=(bK.new w 25 n s).below (af _ _) (by simp);have X0:=Box.new (w.alloc (.cells #[.int .i64 n,.int .i64 s] 25)) 31 #[.int .i64 0,.int .i64 0,.int .i64 0,.slice none 0 0,.int .i64 0,.int .i64 0,.int .i64 0,.int .i64 0,.int .i64 0,.slice none 0 0,.int .i64 0,.bool false,.bool false];rw [World.size_alloc] at X0;have zG:=G0.lt;have zX:=X0.lt;obtain ⟨q0,q1⟩:=G0.cells;go_enter Tryz.func14,Tryz.ntmps14
 go_wp2_with fail
 generalize (w.alloc (.cells #[.int .i64 n,.int .i64 s] 25)).alloc (.cells #[.int .i64 0,.int .i64 0,.int .i64 0,.slice none 0 0,.int .i64 0,.int .i64 0,.int .i64 0,.int .i64 0,.int .i64 0,.slice none 0 0,.int .i64 0,.bool false,.bool false] 31)=W at hA G0 X0 zG zX q0 q1 ⊢;refine (eu _ _ _).mono ?_
 rintro e w1 ⟨rfl,b1⟩;have B1:=Below.andThen hA b1;have G1:=G0.below b1 zG;have X1:=X0.below b1 zX;have z1:=b1.size;clear q0 q1 hA G0 X0 b1;cases hg:bL n s
 . have HZ:=aa (qX (id:=id) (n:=n) (s:=s) (by unfold iu;rw [hg];rfl))
   obtain ⟨p0,p1,p2,p3,p4,p5,p6,p7,p8,p9,p10,p11,p12⟩:=X1.cells13;have fz:=X1.frozen;have hbt:=dj (w.heap.size+1) [(0,.int .i64 0),(1,.int .i64 0),(2,.int .i64 0),(3,.slice none 0 0),(4,.int .i64 0),(5,.int .i64 0),(6,.int .i64 0),(7,.int .i64 0),(8,.int .i64 0),(9,.slice none 0 0),(10,.int .i64 0),(11,.bool false),(12,.bool false)] w1;have FB:=aa (Below.andBut B1 hbt (by omega));simp only [fa] at FB
   clear hbt X1 G1 B1;go_wp2
   refine bodyPost_ret (v:=.agg #[.int .i64 0,.int .i64 0,.int .i64 0,.slice none 0 0,.int .i64 0,.int .i64 0,.int .i64 0,.int .i64 0,.int .i64 0,.slice none 0 0,.int .i64 0,.bool false,.bool false]) (by simp [results,Tryz.results14,go_sem,p0,p1,p2,p3,p4,p5,p6,p7,p8,p9,p10,p11,p12]) rfl ?_
   exact ⟨none,0,by rw [HZ.out.1,HZ.out.2];rfl,by rw [HZ.out.2];exact bS _ _ _,FB.out⟩
 go_wp2_with fail
 refine (aE _ _ _ _).mono ?_
 rintro e wq ⟨rfl,hq⟩;obtain rfl:=hq.symm;cases hid:inB id 1 60000
 . have HZ:=aa (qX (id:=id) (n:=n) (s:=s) (by unfold iu;rw [hg,hid];rfl))
   obtain ⟨p0,p1,p2,p3,p4,p5,p6,p7,p8,p9,p10,p11,p12⟩:=X1.cells13;have fz:=X1.frozen;have hbt:=dj (w.heap.size+1) [(0,.int .i64 0),(1,.int .i64 0),(2,.int .i64 0),(3,.slice none 0 0),(4,.int .i64 0),(5,.int .i64 0),(6,.int .i64 0),(7,.int .i64 0),(8,.int .i64 0),(9,.slice none 0 0),(10,.int .i64 0),(11,.bool false),(12,.bool false)] w1;have FB:=aa (Below.andBut B1 hbt (by omega));simp only [fa] at FB
   clear hbt X1 G1 B1;go_wp2
   refine bodyPost_ret (v:=.agg #[.int .i64 0,.int .i64 0,.int .i64 0,.slice none 0 0,.int .i64 0,.int .i64 0,.int .i64 0,.int .i64 0,.int .i64 0,.slice none 0 0,.int .i64 0,.bool false,.bool false]) (by simp [results,Tryz.results14,go_sem,p0,p1,p2,p3,p4,p5,p6,p7,p8,p9,p10,p11,p12]) rfl ?_
   exact ⟨none,0,by rw [HZ.out.1,HZ.out.2];rfl,by rw [HZ.out.2];exact bS _ _ _,FB.out⟩
 have HY:=aa (uh (id:=id) (n:=n) (s:=s) (by unfold iu;rw [hg,hid];rfl));obtain ⟨g1,g2,g3,g4⟩:=aB.1 hg;obtain ⟨k,rfl⟩:∃k:Nat,s=(k:Int):=⟨s.toNat,by omega⟩;obtain ⟨N,rfl⟩:∃N:Nat,n=(N:Int):=⟨n.toNat,by omega⟩;have hk8:k<=8:=by omega
 have HG:=aa hg;have HID:=aa hid;clear hg hid;have bn:=af w1 (.cells #[.int .i64 id,.int .i64 (N:Int),.int .i64 (k:Int),.slice none 0 0,.int .i64 (-1),.int .i64 0,.int .i64 0,.int .i64 0,.int .i64 0,.slice none 0 0,.int .i64 (-1),.bool false,.bool false] 31);have zn:(w1.alloc (.cells #[.int .i64 id,.int .i64 (N:Int),.int .i64 (k:Int),.slice none 0 0,.int .i64 (-1),.int .i64 0,.int .i64 0,.int .i64 0,.int .i64 0,.slice none 0 0,.int .i64 (-1),.bool false,.bool false] 31)).heap.size=w1.heap.size+1:=by simp
 have G2:=G1.below bn (by omega);have X2:=X1.below bn (by omega);have Y2:=Box.new w1 31 #[.int .i64 id,.int .i64 (N:Int),.int .i64 (k:Int),.slice none 0 0,.int .i64 (-1),.int .i64 0,.int .i64 0,.int .i64 0,.int .i64 0,.slice none 0 0,.int .i64 (-1),.bool false,.bool false];have B2:=Below.andThen B1 bn;obtain ⟨q0,q1⟩:=G1.cells;clear G1 X1 B1 bn;go_wp2
 generalize w1.alloc (.cells #[.int .i64 id,.int .i64 (N:Int),.int .i64 (k:Int),.slice none 0 0,.int .i64 (-1),.int .i64 0,.int .i64 0,.int .i64 0,.int .i64 0,.slice none 0 0,.int .i64 (-1),.bool false,.bool false] 31)=W2 at zn G2 X2 Y2 B2 ⊢;obtain ⟨BO,hBO⟩:∃BO,w1.heap.size=BO:=⟨_,rfl⟩;rw [hBO] at zn Y2 z1 ⊢;clear hBO q0 q1;obtain ⟨LB,hLB⟩:∃LB,W2.heap.size=LB:=⟨_,rfl⟩;have zLB:LB<=BO+1/\BO+1<=LB/\LB<=W2.heap.size/\W2.heap.size<=LB:=by omega
 clear hLB zn;have XR2:=aa X2;have XO2:=aa Y2;have GB2:=aa G2;have HB2:=aa B2;clear X2 Y2 G2 B2;go_loopw [6] (fun i wr=>∃(j:Nat) (v0:Value) (fp0:List Nat),j<=N/\i=.int .i64 j/\Fr LB BO W2 wr/\Box wr BO 31 #[.int .i64 id,.int .i64 (N:Int),.int .i64 (k:Int),v0,.int .i64 (-1),.int .i64 0,.int .i64 0,.int .i64 0,.int .i64 0,.slice none 0 0,.int .i64 (-1),.bool false,.bool false]/\(bI 119 55).Mine wr [v0] (eo id (N:Int) (k:Int) j) fp0/\(∀b∈fp0,LB<=b)) (fun i _=>N-(intOf i).toNat)
 case atStart=>exact ⟨0,_,[],Nat.zero_le _,rfl,Fr.refl _ _ _,XO2.out,cP _,by simp⟩
 obtain ⟨wo,hwo⟩:∃x:World,x=wr:=⟨_,rfl⟩;subst hwo;obtain ⟨j,v0,fp0,hj,rfl,fr,xo,hm,hfp⟩:=hrel;have hs:=fr.size;have hb:=HB2.out.trans (fr.below (M:=w.heap.size) (by omega) (by omega));have gb:bK wo w.heap.size 25 (N:Int) (k:Int):=(fr.block _ (by omega) (by omega)).trans GB2.out;obtain ⟨q0,q1⟩:=gb.cells;by_cases hjn:j<N
 . have k2:(j:Int)<(N:Int):=by omega
   have HTK:=aa (nw id (N:Int) (k:Int) j);rw [ql] at HTK;have HL:=aa (ek id (N:Int) (k:Int) j);have XO:=aa xo;have GBR:=aa gb;have FRR:=aa fr;have HM:=aa hm;have HFP:=aa hfp;have L1:Hid ((eo id (N:Int) (k:Int) j).length+1<=maxLen):=by unfold Hid;rw [HL.out];unfold maxLen;omega
   have L2:Hid (((eo id (N:Int) (k:Int) j).length+1)*80<=140737488355328):=by unfold Hid;rw [HL.out];omega
   have zLw:LB<=wo.heap.size:=by omega
   clear xo hm hfp hb fr gb;go_wp2_with fail
   refine (eH _ (N:Int) (k:Int) ⟨g3,g4⟩).mono ?_
   rintro e w3 ⟨rfl,b3⟩;clear q0 q1;go_wp2_with fail
   refine (gI _ (6+(k:Int))).mono ?_
   rintro e w4 ⟨a0,c0,rfl,o4,b4⟩;have hln:(bC (6+(k:Int))).length=6+k:=by rw [en hk8];simp
   obtain ⟨L,hL⟩:∃L:Nat,6+k=L:=⟨_,rfl⟩;rw [hL] at hln;have zL:6+k<=L/\L<=6+k:=by omega
   have zL2:(0:Int)<(L:Int):=by omega
   have zL3:0<L:=by omega
   clear hL;rw [hln] at o4 ⊢;obtain ⟨fp4,m4,r4⟩:=o4.mine;obtain ⟨g,rfl⟩:=cY m4 (by omega);have b34:Below wo.heap.size wo w4:=Below.andThen b3 b4;have z3:=b3.size;have z4:=b4.size;have b5:=af w4 (.cells #[.slice (some ⟨g,0,none⟩) L c0,.slice none 0 0,.bool false,.slice none 0 0] 55);have B5:Below wo.heap.size wo (w4.alloc (.cells #[.slice (some ⟨g,0,none⟩) L c0,.slice none 0 0,.bool false,.slice none 0 0] 55)):=Below.andThen b34 b5;have G5:=GBR.out.below B5 GBR.out.lt;have Y5:=Box.new w4 55 #[.slice (some ⟨g,0,none⟩) L c0,.slice none 0 0,.bool false,.slice none 0 0];have z5:(w4.alloc (.cells #[.slice (some ⟨g,0,none⟩) L c0,.slice none 0 0,.bool false,.slice none 0 0] 55)).heap.size=w4.heap.size+1:=by simp
   have M5:=m4.alloc (.cells #[.slice (some ⟨g,0,none⟩) L c0,.slice none 0 0,.bool false,.slice none 0 0] 55);have R5:∀b∈fp4,wo.heap.size<=b/\b<w4.heap.size:=fun b hb=>by have:=r4 b hb;omega
   have hsup:=js HG.out HID.out (Int.natCast_nonneg j) k2;clear b3 b4 o4 m4 r4 b34 b5;go_wp2_with fail
   generalize w4.alloc (.cells #[.slice (some ⟨g,0,none⟩) L c0,.slice none 0 0,.bool false,.slice none 0 0] 55)=w5 at B5 G5 Y5 z5 M5 ⊢;obtain ⟨MBN,hMB⟩:∃B,w4.heap.size=B:=⟨_,rfl⟩;rw [hMB] at Y5 z5 R5 ⊢;have zMB:wo.heap.size<=MBN:=by omega
   clear hMB;have mk:Hid (∀w',Box w' MBN 55 #[.slice (some ⟨g,0,none⟩) L c0,.slice none 0 0,.bool false,.slice none 0 0]->bK w' w.heap.size 25 (N:Int) (k:Int)->w'.cell? ⟨MBN,0,none⟩=some (.slice (some ⟨g,0,none⟩) L c0)/\w'.cell? ⟨w.heap.size,0,none⟩=some (.int .i64 (N:Int))/\w'.cell? ⟨w.heap.size,1,none⟩=some (.int .i64 (k:Int))):=fun w' h1 h2=>⟨h1.cell 0,h2.cells.1,h2.cells.2⟩;have hS:w5.drew.cell? ⟨MBN,0,none⟩=some (.slice (some ⟨g,0,none⟩) L c0)/\w5.drew.cell? ⟨w.heap.size,0,none⟩=some (.int .i64 (N:Int))/\w5.drew.cell? ⟨w.heap.size,1,none⟩=some (.int .i64 (k:Int)):=mk.out w5.drew Y5 G5;have Y5H:=aa Y5;have G5H:=aa G5;have M5H:=aa M5;have B5H:=aa B5;have R5H:=aa R5;clear Y5 G5 M5 B5 R5;generalize hPP:dE (dB id (N:Int) (k:Int) (j:Int))=P at HTK;refine ao.start (S:=fun w'=>w'.cell? ⟨MBN,0,none⟩=some (.slice (some ⟨g,0,none⟩) L c0)/\w'.cell? ⟨w.heap.size,0,none⟩=some (.int .i64 (N:Int))/\w'.cell? ⟨w.heap.size,1,none⟩=some (.int .i64 (k:Int))) (k:=11) (by kernel_rfl) ?_
   refine ao.take (i:=0) (v:=?_) rfl (by kernel_rfl) (by kernel_rfl) (by kernel_rfl) (by kernel_rfl) (fun _ _ _ h=>h) (Or.inl ⟨by rfl,?_⟩) hS ?_
   rotate_left 1
   . (intro w hSw;(try dsimp only at hSw);go_split_ands;go_simp;first|done|with_reducible rfl)
   simp only [Act.put,List.setIfInBounds_toArray,List.set_cons_zero,List.set_cons_succ]
   refine ao.take (i:=1) (v:=?_) rfl (by kernel_rfl) (by kernel_rfl) (by kernel_rfl) (by kernel_rfl) (fun _ _ _ h=>h) (Or.inl ⟨by rfl,?_⟩) hS ?_
   rotate_left 1
   . (intro w hSw;(try dsimp only at hSw);go_split_ands;go_simp;first|done|with_reducible rfl)
   simp only [Act.put,List.setIfInBounds_toArray,List.set_cons_zero,List.set_cons_succ]
   refine ao.take (i:=2) (v:=?_) rfl (by kernel_rfl) (by kernel_rfl) (by kernel_rfl) (by kernel_rfl) (fun _ _ _ h=>h) (Or.inl ⟨by rfl,?_⟩) hS ?_
   rotate_left 1
   . (intro w hSw;(try dsimp only at hSw);go_split_ands;go_simp;first|done|with_reducible rfl)
   simp only [Act.put,List.setIfInBounds_toArray,List.set_cons_zero,List.set_cons_succ]
   refine ao.take (i:=3) (v:=?_) rfl (by kernel_rfl) (by kernel_rfl) (by kernel_rfl) (by kernel_rfl) (fun _ _ _ h=>h) (Or.inl ⟨by rfl,?_⟩) hS ?_
   rotate_left 1
   . (intro w hSw;(try dsimp only at hSw);go_split_ands;go_simp;first|done|with_reducible rfl)
   simp only [Act.put,List.setIfInBounds_toArray,List.set_cons_zero,List.set_cons_succ]
   refine ao.take (i:=4) (v:=?_) rfl (by kernel_rfl) (by kernel_rfl) (by kernel_rfl) (by kernel_rfl) (fun _ _ _ h=>h) (Or.inl ⟨by rfl,?_⟩) hS ?_
   rotate_left 1
   . (intro w hSw;(try dsimp only at hSw);go_split_ands;go_simp;first|done|with_reducible rfl)
   simp only [Act.put,List.setIfInBounds_toArray,List.set_cons_zero,List.set_cons_succ]
   refine ao.take (i:=5) (v:=?_) rfl (by kernel_rfl) (by kernel_rfl) (by kernel_rfl) (by kernel_rfl) (fun _ _ _ h=>h) (Or.inl ⟨by rfl,?_⟩) hS ?_
   rotate_left 1
   . (intro w hSw;(try dsimp only at hSw);go_split_ands;go_simp;first|done|with_reducible rfl)
   simp only [Act.put,List.setIfInBounds_toArray,List.set_cons_zero,List.set_cons_succ]
   refine ao.take (i:=6) (v:=?_) rfl (by kernel_rfl) (by kernel_rfl) (by kernel_rfl) (by kernel_rfl) (fun _ _ _ h=>h) (Or.inl ⟨by rfl,?_⟩) hS ?_
   rotate_left 1
   . (intro w hSw;(try dsimp only at hSw);go_split_ands;go_simp;first|done|with_reducible rfl)
   simp only [Act.put,List.setIfInBounds_toArray,List.set_cons_zero,List.set_cons_succ]
   refine ao.take (i:=7) (v:=?_) rfl (by kernel_rfl) (by kernel_rfl) (by kernel_rfl) (by kernel_rfl) (fun _ _ _ h=>h) (Or.inl ⟨by rfl,?_⟩) hS ?_
   rotate_left 1
   . (intro w hSw;(try dsimp only at hSw);go_split_ands;go_simp;first|done|with_reducible rfl)
   simp only [Act.put,List.setIfInBounds_toArray,List.set_cons_zero,List.set_cons_succ]
   refine ao.take (i:=8) (v:=?_) rfl (by kernel_rfl) (by kernel_rfl) (by kernel_rfl) (by kernel_rfl) (fun _ _ _ h=>h) (Or.inl ⟨by rfl,?_⟩) hS ?_
   rotate_left 1
   . (intro w hSw;(try dsimp only at hSw);go_split_ands;go_simp;first|done|with_reducible rfl)
   simp only [Act.put,List.setIfInBounds_toArray,List.set_cons_zero,List.set_cons_succ]
   refine ao.one (i:=9) (by kernel_rfl) rfl (fun K hK=>?_)
   go_simp
   refine (ij _ (dB id (N:Int) (k:Int) (j:Int))).mono ?_
   rintro e w6 ⟨ap,lp,cp,rfl,o6,b6'⟩;have b6:Below w5.heap.size w5 w6:=(Below.refl w5.heap.size w5).drew.trans b6';have o6b:aD.Own w6 w5.heap.size w6.heap.size [.slice ap lp cp] P:=by rw [←hPP];exact o6
   have HPP:=aa hPP;clear hPP;obtain ⟨fpp,mp,rp⟩:=o6b.mine;have z6:=b6.size;have Y6:=Y5H.out.below b6 (by omega);have G6:=G5H.out.below b6 (by omega);have M6:=M5H.out.below b6;have hS6:w6.cell? ⟨MBN,0,none⟩=some (.slice (some ⟨g,0,none⟩) L c0)/\w6.cell? ⟨w.heap.size,0,none⟩=some (.int .i64 (N:Int))/\w6.cell? ⟨w.heap.size,1,none⟩=some (.int .i64 (k:Int)):=mk.out w6 Y6 G6;obtain ⟨⟨old,cOld⟩,fz,hgm,fpA,mA,rA⟩:=im (j:=0) rfl M6 (by omega) mp (fun b hb hb'=>by have h1:=rp b hb;have h2:=R5H.out b hb';omega);rw [sU hk8] at mA;have hgr:=R5H.out g hgm;have nMg:¬MBN=g:=by omega
   have nMg2:¬g=MBN:=by omega
   have Y7:Box (w6.setCell ⟨g,0,none⟩ (.slice ap lp cp)) MBN 55 #[.slice (some ⟨g,0,none⟩) L c0,.slice none 0 0,.bool false,.slice none 0 0]:=Y6.other (by omega) 0 _;have B7:Below wo.heap.size wo (w6.setCell ⟨g,0,none⟩ (.slice ap lp cp)):=((B5H.out.trans (b6.mono (by omega))).setCell (show wo.heap.size<=g by omega) _);have R7:∀b∈fpA,wo.heap.size<=b/\b≠MBN:=fun b hb=>by
    rcases rA b hb with h|h
    . have:=R5H.out b h;omega
    have:=rp b h;omega
   have z7:MBN<(w6.setCell ⟨g,0,none⟩ (.slice ap lp cp)).heap.size:=Y7.lt;have Y7H:=aa Y7;have B7H:=aa B7;have M7H:=aa mA;have R7H:=aa R7;clear Y6 G6 M6 mp rp o6 o6b b6 b6' mA rA Y7 B7 R7 Y5H G5H M5H B5H R5H;go_wp2_with fail
   refine hK.out _ _ (fun _=>hS6) ?_
   clear hK K;refine ao.take (i:=10) (v:=?_) rfl (by kernel_rfl) (by kernel_rfl) (by kernel_rfl) (by kernel_rfl) (fun _ _ _ h=>h) (Or.inl ⟨by rfl,?_⟩) hS6 ?_
   rotate_left 1
   . (intro w hSw;(try dsimp only at hSw);go_split_ands;go_simp;first|done|with_reducible rfl)
   simp only [Act.put,List.setIfInBounds_toArray,List.set_cons_zero,List.set_cons_succ]
   refine ao.one (i:=11) (by kernel_rfl) rfl (fun K hK=>?_)
   go_simp
   refine hK.out _ _ (fun h=>absurd rfl h) ?_
   clear hK K;refine ao.done (by kernel_rfl) ?_ _
   clear hS hS6 cOld fz mk;generalize w6.setCell ⟨g,0,none⟩ (.slice ap lp cp)=w7 at Y7H B7H M7H z7 ⊢;have zm7:=B7H.out.size;go_wp2
   go_loopw [8] (fun i wi=>∃(q:Nat) (fq:List Nat),q<=k/\i=.int .i64 q/\Below wo.heap.size wo wi/\Box wi MBN 55 #[.slice (some ⟨g,0,none⟩) L c0,.slice none 0 0,.bool false,.slice none 0 0]/\aU.Mine wi [.slice (some ⟨g,0,none⟩) L c0] (ex P k q) fq/\(∀b∈fq,wo.heap.size<=b/\b≠MBN)) (fun i _=>k-(intOf i).toNat)
   case atStart=>exact ⟨0,_,Nat.zero_le _,rfl,B7H.out,Y7H.out,M7H.out,R7H.out⟩
   obtain ⟨q,fq,hq,rfl,bi,yi,mi,ri⟩:=hrel;have gi:=GBR.out.below bi GBR.out.lt;obtain ⟨q0,q1⟩:=gi.cells;have zi:=bi.size;have zy:=yi.lt;by_cases hqk:q<k
   . have k3:(q:Int)<(k:Int):=by omega
     obtain ⟨Q,hQ⟩:∃Q:Nat,6+q=Q:=⟨_,rfl⟩;have hd:bE (q:Int)=(Q:Int):=by unfold bE;rw [if_pos (by omega)];omega
     have bl:=af wr (.cells #[.int .i64 0] 3);have zl:(wr.alloc (.cells #[.int .i64 0] 3)).heap.size=wr.heap.size+1:=by simp
     have ol:=aS (bk.lit .i64 3 wr [0] 1 #[.int .i64 0] rfl rfl (by unfold maxLen;omega));obtain ⟨fl,ml,rl⟩:=ol.mine;have yl:=yi.alloc (.cells #[.int .i64 0] 3);obtain ⟨⟨old,cOld⟩,fz,hgm,fpA,mA,rA⟩:=im (j:=Q) rfl (mi.alloc (.cells #[.int .i64 0] 3)) (by omega) ml (fun b hb hb'=>by have h1:=rl b hb;have h2:=mi.lt b hb';omega);rw [←hQ,uz hqk,hQ] at mA;have hgr:=ri g hgm;have nMg:¬MBN=g:=by omega
     have nMg2:¬g=MBN:=by omega
     have YN:Hid (Box ((wr.alloc (.cells #[.int .i64 0] 3)).setCell ⟨g,Q,none⟩ (.slice (some ⟨wr.heap.size,0,none⟩) 1 1)) MBN 55 #[.slice (some ⟨g,0,none⟩) L c0,.slice none 0 0,.bool false,.slice none 0 0]):=yl.other (by omega) _ _;have BN:Hid (Below wo.heap.size wo ((wr.alloc (.cells #[.int .i64 0] 3)).setCell ⟨g,Q,none⟩ (.slice (some ⟨wr.heap.size,0,none⟩) 1 1))):=((bi.trans (bl.mono zi)).setCell (show wo.heap.size<=g by omega) _);have RN:Hid (∀b∈fpA,wo.heap.size<=b/\b≠MBN):=fun b hb=>by
      rcases rA b hb with h|h
      . exact ri b h
      have:=rl b h;omega
     have MN:=aa mA;have hS:wr.drew.cell? ⟨MBN,0,none⟩=some (.slice (some ⟨g,0,none⟩) L c0):=yi.cell 0;have hS1:(wr.alloc (.cells #[.int .i64 0] 3)).drew.cell? ⟨MBN,0,none⟩=some (.slice (some ⟨g,0,none⟩) L c0):=yl.cell 0;have i1:(0:Int)<=(Q:Int):=by omega
     have i2:(Q:Int)<(L:Int):=by omega
     have i3:Q<L:=by omega
     have HD:=aa hd;clear mA rA ml rl ol bl yl yi mi ri bi gi hd hQ;go_wp2_with fail
     refine bM.start (S:=fun w'=>w'.cell? ⟨MBN,0,none⟩=some (.slice (some ⟨g,0,none⟩) L c0)) (k:=6) (by kernel_rfl) ?_
     refine bM.take (i:=0) (v:=?_) rfl (by kernel_rfl) (by kernel_rfl) (by kernel_rfl) (by kernel_rfl) (fun _ _ _ h=>h) (Or.inl ⟨by rfl,?_⟩) hS ?_
     rotate_left 1
     . (intro w hSw;(try dsimp only at hSw);go_split_ands;go_simp;first|done|with_reducible rfl)
     simp only [Act.put,List.setIfInBounds_toArray,List.set_cons_zero,List.set_cons_succ]
     refine bM.take (i:=1) (v:=?_) rfl (by kernel_rfl) (by kernel_rfl) (by kernel_rfl) (by kernel_rfl) (fun _ _ _ h=>h) (Or.inl ⟨by rfl,?_⟩) hS ?_
     rotate_left 1
     . (intro w hSw;(try dsimp only at hSw);go_split_ands;go_simp;first|done|with_reducible rfl)
     simp only [Act.put,List.setIfInBounds_toArray,List.set_cons_zero,List.set_cons_succ]
     refine bM.take (i:=2) (v:=?_) rfl (by kernel_rfl) (by kernel_rfl) (by kernel_rfl) (by kernel_rfl) (fun _ _ _ h=>h) (Or.inl ⟨by rfl,?_⟩) hS ?_
     rotate_left 1
     . (intro w hSw;(try dsimp only at hSw);go_split_ands;go_simp;first|done|with_reducible rfl)
     simp only [Act.put,List.setIfInBounds_toArray,List.set_cons_zero,List.set_cons_succ]
     refine bM.two (i:=3) (i':=4) (by kernel_rfl) rfl rfl (fun K hK=>?_) (fun K hK=>?_)
     . go_simp
       refine (cF _ _).mono ?_
       rintro e w9 ⟨rfl,h9⟩;subst h9;rw [HD.out];go_wp2_with fail
       refine hK.out _ _ (fun _=>hS) ?_
       clear hK K;refine bM.one (i:=4) (by kernel_rfl) rfl (fun K hK=>?_)
       go_simp
       refine hK.out _ _ (fun _=>hS1) ?_
       clear hK K;refine bM.take (i:=5) (v:=?_) rfl (by kernel_rfl) (by kernel_rfl) (by kernel_rfl) (by kernel_rfl) (fun _ _ _ h=>h) (Or.inl ⟨by rfl,?_⟩) hS1 ?_
       rotate_left 1
       . (intro w hSw;(try dsimp only at hSw);go_split_ands;go_simp;first|done|with_reducible rfl)
       simp only [Act.put,List.setIfInBounds_toArray,List.set_cons_zero,List.set_cons_succ]
       refine bM.one (i:=6) (by kernel_rfl) rfl (fun K hK=>?_)
       go_simp
       refine hK.out _ _ (fun h=>absurd rfl h) ?_
       clear hK K;refine bM.done (by kernel_rfl) ?_ _
       go_wp2
       go_roundw
       case rel=>exact ⟨q+1,fpA,by omega,by go_num,BN.out.drew,YN.out,MN.out,RN.out⟩
       case measure=>simp [intOf];omega
     go_simp
     refine hK.out _ _ (fun _=>hS1) ?_
     clear hK K;refine bM.one (i:=3) (by kernel_rfl) rfl (fun K hK=>?_)
     go_simp
     refine (cF _ _).mono ?_
     rintro e w9 ⟨rfl,h9⟩;subst h9;rw [HD.out];go_wp2_with fail
     refine hK.out _ _ (fun _=>hS1) ?_
     clear hK K;refine bM.take (i:=5) (v:=?_) rfl (by kernel_rfl) (by kernel_rfl) (by kernel_rfl) (by kernel_rfl) (fun _ _ _ h=>h) (Or.inl ⟨by rfl,?_⟩) hS1 ?_
     rotate_left 1
     . (intro w hSw;(try dsimp only at hSw);go_split_ands;go_simp;first|done|with_reducible rfl)
     simp only [Act.put,List.setIfInBounds_toArray,List.set_cons_zero,List.set_cons_succ]
     refine bM.one (i:=6) (by kernel_rfl) rfl (fun K hK=>?_)
     go_simp
     refine hK.out _ _ (fun h=>absurd rfl h) ?_
     clear hK K;refine bM.done (by kernel_rfl) ?_ _
     go_wp2
     go_roundw
     case rel=>exact ⟨q+1,fpA,by omega,by go_num,BN.out.drew,YN.out,MN.out,RN.out⟩
     case measure=>simp [intOf];omega
   have eq:q=k:=by omega
   subst eq;have om:=cH (E:=119) (f:=false) (lo:=wo.heap.size) (hi:=wr.heap.size) (l1:=wr.heap.size) (u1:=wr.heap.size) (l3:=wr.heap.size) (u3:=wr.heap.size) (mi.own (lo:=wo.heap.size) (hi:=wr.heap.size) (fun b hb=>⟨(ri b hb).1,mi.lt b hb⟩)) (bS _ _ _) (bS _ _ _) (.inl (Nat.le_refl _)) (.inl (Nat.le_refl _)) (.inl (Nat.le_refl _)) ⟨Nat.le_refl _,Nat.le_refl _⟩ ⟨zi,Nat.le_refl _⟩ ⟨zi,Nat.le_refl _⟩;obtain ⟨fpx,mx,rx⟩:=om.mine;have xoc:=XO.out.below bi (by omega);obtain ⟨r0,r1,r2,r3,r4,r5,r6,r7,r8,r9,r10,r11,r12⟩:=xoc.cells13;obtain ⟨y0,y1,y2,y3⟩:=yi.cells4;have XOC:=aa xoc;have MX:=aa mx;have RX:=aa rx;have HBC:=aa bi;have zB:(wr.alloc (.cells #[.slice (some ⟨g,0,none⟩) L c0,.slice none 0 0,.bool false,.slice none 0 0] 55)).heap.size=wr.heap.size+1:=by simp
   clear xoc mx rx om yi mi ri gi bi;go_wp2_with (at_builtin;refine cO (cu 119) rfl _ _ 28 rfl 55 i4 (.agg #[.slice none 0 0,.slice none 0 0,.bool false,.slice none 0 0]) 80 Tryz.underlying28 hi4 hz0 hz1 hz2 rfl (by decide) v0 (eo id (N:Int) (q:Int) j) fp0 rfl ?_ ⟨wr.heap.size,0,none⟩ 1 [.slice (some ⟨g,0,none⟩) L c0,.slice none 0 0,.bool false,.slice none 0 0] (ex P q q,[],false,[]) fpx rfl ?_ ?_ ?_ ?_ ?_ ?_ ?_;exact (HM.out.below HBC.out).alloc _;exact MX.out.alloc _;(intro b hb hb';have h1:=HM.out.lt b hb;have h2:=RX.out b hb';omega);exact bN _ _ _;(intro u hu;simp at hu;rcases hu with hu|hu|hu|hu<;>(rw [hu];rfl));exact L1.out;exact L2.out;intro v9 wA fpA m1 m2 m3;rw [←HTK.out] at m1;obtain ⟨ea,ca,hv9⟩:=aC m1.rd;rw [ek] at hv9;subst hv9;have ya:=(XOC.out.alloc (.cells #[.slice (some ⟨g,0,none⟩) L c0,.slice none 0 0,.bool false,.slice none 0 0] 55)).turned m3 (fun hm=>by have:=HFP.out _ hm;omega);have rr3:wA.cell? ⟨BO,3,none⟩=some v0:=ya.cell 3;have fz:=ya.frozen 3;have YA:=aa ya;have M1:=aa m1;have M2:=aa m2;have M3:=aa m3;clear ya m1 m2 m3)
   have HFA:=aa (ev (N:=LB) zLw HBC.out HFP.out RX.out M2.out);have FRA:=aa (Fr.round FRR.out zLw HBC.out _ M3.out HFP.out 3 (.slice ea (j+1) ca));have MA:=aa (M1.out.setCell (g:=BO) (j:=3) (fun hm=>by have:=HFA.out _ hm;omega) (.slice ea (j+1) ca));have YA':=aa (YA.out.set 3 (.slice ea (j+1) ca));go_roundw
   case rel=>exact ⟨j+1,_,fpA,by omega,by go_num,FRA.out,YA'.out,MA.out,HFA.out⟩
   case measure=>simp [intOf];omega
 have ej:j=N:=by omega
 subst ej;have hlt:=hm.lt;obtain ⟨eM,gM,hvM⟩:=aC hm.rd;rw [ek] at hvM;subst hvM;have KM:=hm.own (lo:=LB) (hi:=wo.heap.size) (fun b hb=>⟨hfp b hb,hlt b hb⟩);have xr:=fr.box XR2.out (by omega) (by omega);have hbt:=dj (w.heap.size+1) [(0,.int .i64 id),(1,.int .i64 (j:Int)),(2,.int .i64 (k:Int)),(3,.slice eM j gM),(4,.int .i64 (-1)),(5,.int .i64 0),(6,.int .i64 0),(7,.int .i64 0),(8,.int .i64 0),(9,.slice none 0 0),(10,.int .i64 (-1)),(11,.bool false),(12,.bool false)] wo;have hsz:=hbt.size;have FO:=aa ((KM.but hbt (.inr (by omega))).widen (lo':=w.heap.size) (by omega) hsz);have FB:=aa (Below.andBut hb hbt (by omega));simp only [fa] at FO FB
 obtain ⟨p0,p1,p2,p3,p4,p5,p6,p7,p8,p9,p10,p11,p12⟩:=xr.cells13;have fz:=xr.frozen;obtain ⟨r0,r1,r2,r3,r4,r5,r6,r7,r8,r9,r10,r11,r12⟩:=xo.cells13;clear fr xo hb hm hfp hlt xr KM hbt hsz gb hj hs;go_wp2
 refine bodyPost_ret (v:=.agg #[.int .i64 id,.int .i64 (j:Int),.int .i64 (k:Int),.slice eM j gM,.int .i64 (-1),.int .i64 0,.int .i64 0,.int .i64 0,.int .i64 0,.slice none 0 0,.int .i64 (-1),.bool false,.bool false]) (by simp [results,Tryz.results14,go_sem,p0,p1,p2,p3,p4,p5,p6,p7,p8,p9,p10,p11,p12]) rfl ?_
 have hnl:(eo id (j:Int) (k:Int) (j:Int).toNat).length=j:=by rw [ek];simp
 exact ⟨eM,gM,by rw [HY.out.1,HY.out.2,hnl],by rw [HY.out.2,hnl,Int.toNat_natCast];exact FO.out,FB.out⟩
end Go.Proofs.YtgjomldcnjjpaaaGreat
