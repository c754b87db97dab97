/-
 A disk, an entry, a sector that is put into a drawn array: plain lemmas. No condition.
-/
import Derived.Test.YtejeekndbnpmoaaGreatRowWritesBentSq19
import Derived.Test.YtejeekndbnpmoaaGreatRowWritesBentSq3
import Derived.Test.YtejeekndbnpmoaaGreatRowWritesBentSq2

set_option maxRecDepth 100000
set_option maxHeartbeats 8000000
set_option linter.unusedSimpArgs false

namespace Go.Proofs.YtejeekndbnpmoaaGreat
open Go.RowKit

theorem mT (w:World) (id n s:Int):
 Calls Tryz.prog 148 #[.int .i64 id,.agg #[.int .i64 n,.int .i64 s]] w fun e w'=>∃am cm,e=.returned (.agg #[.int .i64 (iC id n s).id,.int .i64 (iC id n s).n,.int .i64 (iC id n s).s,.slice am (jc id n s).length cm,.int .i64 (iC id n s).lost,.int .i64 (iC id n s).vG,.int .i64 (iC id n s).seq,.int .i64 (iC id n s).tail,.int .i64 (iC id n s).gen,.slice none 0 0,.int .i64 (iC id n s).vI,.bool (iC id n s).down,.bool (iC id n s).vH])/\(bt 171 101).Own w' w.heap.size w'.heap.size [.slice am (jc id n s).length cm] (jc id n s)/\Below w.heap.size w w':=by
 obtain ⟨i4,hi4,hz0,hz1,hz2⟩:=info_parts Tryz.infoMem;have hA:=(ae w (.cells #[.int .i64 n,.int .i64 s] 25)).alloc (by simp) (.cells #[.int .i64 0,.int .i64 0,.int .i64 0,.slice none 0 0,.int .i64 0,.int .i64 0,.int .i64 0,.int .i64 0,.int .i64 0,.slice none 0 0,.int .i64 0,.bool false,.bool false] 29);have G0:bL ((w.alloc (.cells #[.int .i64 n,.int .i64 s] 25)).alloc (.cells #[.int .i64 0,.int .i64 0,.int .i64 0,.slice none 0 0,.int .i64 0,.int .i64 0,.int .i64 0,.int .i64 0,.int .i64 0,.slice none 0 0,.int .i64 0,.bool false,.bool false] 29)) w.heap.size 25 n s:=(bL.new w 25 n s).below (ae _ _) (by simp);have X0:=Box.new (w.alloc (.cells #[.int .i64 n,.int .i64 s] 25)) 29 #[.int .i64 0,.int .i64 0,.int .i64 0,.slice none 0 0,.int .i64 0,.int .i64 0,.int .i64 0,.int .i64 0,.int .i64 0,.slice none 0 0,.int .i64 0,.bool false,.bool false];rw [World.size_alloc] at X0;have zG:=G0.lt;have zX:=X0.lt;obtain ⟨q0,q1⟩:=G0.cells;go_enter Tryz.func148,Tryz.ntmps148
 go_wp2_with fail
 generalize (w.alloc (.cells #[.int .i64 n,.int .i64 s] 25)).alloc (.cells #[.int .i64 0,.int .i64 0,.int .i64 0,.slice none 0 0,.int .i64 0,.int .i64 0,.int .i64 0,.int .i64 0,.int .i64 0,.slice none 0 0,.int .i64 0,.bool false,.bool false] 29)=W at hA G0 X0 zG zX q0 q1 ⊢;refine (dX _ _ _).mono ?_
 rintro e w1 ⟨rfl,b1⟩;have B1:=Below.andThen hA b1;have G1:=G0.below b1 zG;have X1:=X0.below b1 zX;have z1:=b1.size;clear q0 q1 hA G0 X0 b1;cases hg:bF n s
 . have HZ:=aa (uH (id:=id) (n:=n) (s:=s) (by unfold pn;rw [hg];rfl))
   obtain ⟨p0,p1,p2,p3,p4,p5,p6,p7,p8,p9,p10,p11,p12⟩:=X1.cells13;have fz:=X1.frozen;have hbt:=bN (w.heap.size+1) [(0,.int .i64 0),(1,.int .i64 0),(2,.int .i64 0),(3,.slice none 0 0),(4,.int .i64 0),(5,.int .i64 0),(6,.int .i64 0),(7,.int .i64 0),(8,.int .i64 0),(9,.slice none 0 0),(10,.int .i64 0),(11,.bool false),(12,.bool false)] w1;have FB:=aa (Below.andBut B1 hbt (by omega));simp only [bK] at FB
   clear hbt X1 G1 B1;go_wp2
   refine bodyPost_ret (v:=.agg #[.int .i64 0,.int .i64 0,.int .i64 0,.slice none 0 0,.int .i64 0,.int .i64 0,.int .i64 0,.int .i64 0,.int .i64 0,.slice none 0 0,.int .i64 0,.bool false,.bool false]) (by simp [results,Tryz.results148,go_sem,p0,p1,p2,p3,p4,p5,p6,p7,p8,p9,p10,p11,p12]) rfl ?_
   exact ⟨none,0,by rw [HZ.out.1,HZ.out.2];rfl,by rw [HZ.out.2];exact ij _ _ _,FB.out⟩
 go_wp2_with fail
 refine (aE _ _ _ _).mono ?_
 rintro e wq ⟨rfl,hq⟩;obtain rfl:=hq.symm;cases hid:inB id 1 60000
 . have HZ:=aa (uH (id:=id) (n:=n) (s:=s) (by unfold pn;rw [hg,hid];rfl))
   obtain ⟨p0,p1,p2,p3,p4,p5,p6,p7,p8,p9,p10,p11,p12⟩:=X1.cells13;have fz:=X1.frozen;have hbt:=bN (w.heap.size+1) [(0,.int .i64 0),(1,.int .i64 0),(2,.int .i64 0),(3,.slice none 0 0),(4,.int .i64 0),(5,.int .i64 0),(6,.int .i64 0),(7,.int .i64 0),(8,.int .i64 0),(9,.slice none 0 0),(10,.int .i64 0),(11,.bool false),(12,.bool false)] w1;have FB:=aa (Below.andBut B1 hbt (by omega));simp only [bK] at FB
   clear hbt X1 G1 B1;go_wp2
   refine bodyPost_ret (v:=.agg #[.int .i64 0,.int .i64 0,.int .i64 0,.slice none 0 0,.int .i64 0,.int .i64 0,.int .i64 0,.int .i64 0,.int .i64 0,.slice none 0 0,.int .i64 0,.bool false,.bool false]) (by simp [results,Tryz.results148,go_sem,p0,p1,p2,p3,p4,p5,p6,p7,p8,p9,p10,p11,p12]) rfl ?_
   exact ⟨none,0,by rw [HZ.out.1,HZ.out.2];rfl,by rw [HZ.out.2];exact ij _ _ _,FB.out⟩
 have HY:=aa (vD (id:=id) (n:=n) (s:=s) (by unfold pn;rw [hg,hid];rfl));obtain ⟨g1,g2,g3,g4⟩:=aB.1 hg;obtain ⟨k,rfl⟩:∃k:Nat,s=(k:Int):=⟨s.toNat,by omega⟩;obtain ⟨N,rfl⟩:∃N:Nat,n=(N:Int):=⟨n.toNat,by omega⟩;have hk8:k<=8:=by omega
 have HG:=aa hg;have HID:=aa hid;clear hg hid;have bn:=ae w1 (.cells #[.int .i64 id,.int .i64 (N:Int),.int .i64 (k:Int),.slice none 0 0,.int .i64 (-1),.int .i64 0,.int .i64 0,.int .i64 0,.int .i64 0,.slice none 0 0,.int .i64 (-1),.bool false,.bool false] 29);have zn:(w1.alloc (.cells #[.int .i64 id,.int .i64 (N:Int),.int .i64 (k:Int),.slice none 0 0,.int .i64 (-1),.int .i64 0,.int .i64 0,.int .i64 0,.int .i64 0,.slice none 0 0,.int .i64 (-1),.bool false,.bool false] 29)).heap.size=w1.heap.size+1:=by simp
 have G2:=G1.below bn (by omega);have X2:=X1.below bn (by omega);have Y2:=Box.new w1 29 #[.int .i64 id,.int .i64 (N:Int),.int .i64 (k:Int),.slice none 0 0,.int .i64 (-1),.int .i64 0,.int .i64 0,.int .i64 0,.int .i64 0,.slice none 0 0,.int .i64 (-1),.bool false,.bool false];have B2:=Below.andThen B1 bn;obtain ⟨q0,q1⟩:=G1.cells;clear G1 X1 B1 bn;go_wp2
 generalize w1.alloc (.cells #[.int .i64 id,.int .i64 (N:Int),.int .i64 (k:Int),.slice none 0 0,.int .i64 (-1),.int .i64 0,.int .i64 0,.int .i64 0,.int .i64 0,.slice none 0 0,.int .i64 (-1),.bool false,.bool false] 29)=W2 at zn G2 X2 Y2 B2 ⊢;obtain ⟨BO,hBO⟩:∃BO,w1.heap.size=BO:=⟨_,rfl⟩;rw [hBO] at zn Y2 z1 ⊢;clear hBO q0 q1;obtain ⟨LB,hLB⟩:∃LB,W2.heap.size=LB:=⟨_,rfl⟩;have zLB:LB<=BO+1/\BO+1<=LB/\LB<=W2.heap.size/\W2.heap.size<=LB:=by omega
 clear hLB zn;have XR2:=aa X2;have XO2:=aa Y2;have GB2:=aa G2;have HB2:=aa B2;clear X2 Y2 G2 B2;go_loopw [6] (fun i wr=>∃(j:Nat) (v0:Value) (fp0:List Nat),j<=N/\i=.int .i64 j/\Fr LB BO W2 wr/\Box wr BO 29 #[.int .i64 id,.int .i64 (N:Int),.int .i64 (k:Int),v0,.int .i64 (-1),.int .i64 0,.int .i64 0,.int .i64 0,.int .i64 0,.slice none 0 0,.int .i64 (-1),.bool false,.bool false]/\(bt 171 101).Mine wr [v0] (gp id (N:Int) (k:Int) j) fp0/\(∀b∈fp0,LB<=b)) (fun i _=>N-(intOf i).toNat)
 case atStart=>exact ⟨0,_,[],Nat.zero_le _,rfl,Fr.refl _ _ _,XO2.out,dc _,by simp⟩
 obtain ⟨wo,hwo⟩:∃x:World,x=wr:=⟨_,rfl⟩;subst hwo;obtain ⟨j,v0,fp0,hj,rfl,fr,xo,hm,hfp⟩:=hrel;have hs:=fr.size;have hb:=HB2.out.trans (fr.below (M:=w.heap.size) (by omega) (by omega));have gb:bL wo w.heap.size 25 (N:Int) (k:Int):=(fr.block _ (by omega) (by omega)).trans GB2.out;obtain ⟨q0,q1⟩:=gb.cells;by_cases hjn:j<N
 . have k2:(j:Int)<(N:Int):=by omega
   have HTK:=aa (rP id (N:Int) (k:Int) j);rw [tt] at HTK;have HL:=aa (jn id (N:Int) (k:Int) j);have XO:=aa xo;have GBR:=aa gb;have FRR:=aa fr;have HM:=aa hm;have HFP:=aa hfp;have L1:Hid ((gp id (N:Int) (k:Int) j).length+1<=maxLen):=by unfold Hid;rw [HL.out];unfold maxLen;omega
   have L2:Hid (((gp id (N:Int) (k:Int) j).length+1)*80<=140737488355328):=by unfold Hid;rw [HL.out];omega
   have zLw:LB<=wo.heap.size:=by omega
   clear xo hm hfp hb fr gb;go_wp2_with fail
   refine (ek _ (N:Int) (k:Int) ⟨g3,g4⟩).mono ?_
   rintro e w3 ⟨rfl,b3⟩;clear q0 q1;go_wp2_with fail
   refine (fZ _ (6+(k:Int))).mono ?_
   rintro e w4 ⟨a0,c0,rfl,o4,b4⟩;have hln:(dS (6+(k:Int))).length=6+k:=by rw [oI hk8];simp
   obtain ⟨L,hL⟩:∃L:Nat,6+k=L:=⟨_,rfl⟩;rw [hL] at hln;have zL:6+k<=L/\L<=6+k:=by omega
   have zL2:(0:Int)<(L:Int):=by omega
   have zL3:0<L:=by omega
   clear hL;rw [hln] at o4 ⊢;obtain ⟨fp4,m4,r4⟩:=o4.mine;obtain ⟨g,rfl⟩:=bU m4 (by omega);have b34:Below wo.heap.size wo w4:=Below.andThen b3 b4;have z3:=b3.size;have z4:=b4.size;have b5:=ae w4 (.cells #[.slice (some ⟨g,0,none⟩) L c0,.slice none 0 0,.bool false,.slice none 0 0] 101);have B5:Below wo.heap.size wo (w4.alloc (.cells #[.slice (some ⟨g,0,none⟩) L c0,.slice none 0 0,.bool false,.slice none 0 0] 101)):=Below.andThen b34 b5;have G5:=GBR.out.below B5 GBR.out.lt;have Y5:=Box.new w4 101 #[.slice (some ⟨g,0,none⟩) L c0,.slice none 0 0,.bool false,.slice none 0 0];have z5:(w4.alloc (.cells #[.slice (some ⟨g,0,none⟩) L c0,.slice none 0 0,.bool false,.slice none 0 0] 101)).heap.size=w4.heap.size+1:=by simp
   have M5:=m4.alloc (.cells #[.slice (some ⟨g,0,none⟩) L c0,.slice none 0 0,.bool false,.slice none 0 0] 101);have R5:∀b∈fp4,wo.heap.size<=b/\b<w4.heap.size:=fun b hb=>by have:=r4 b hb;omega
   have hsup:=oH HG.out HID.out (Int.natCast_nonneg j) k2;clear b3 b4 o4 m4 r4 b34 b5;go_wp2_with fail
   generalize w4.alloc (.cells #[.slice (some ⟨g,0,none⟩) L c0,.slice none 0 0,.bool false,.slice none 0 0] 101)=w5 at B5 G5 Y5 z5 M5 ⊢;obtain ⟨MBN,hMB⟩:∃B,w4.heap.size=B:=⟨_,rfl⟩;rw [hMB] at Y5 z5 R5 ⊢;have zMB:wo.heap.size<=MBN:=by omega
   clear hMB;have mk:Hid (∀w',Box w' MBN 101 #[.slice (some ⟨g,0,none⟩) L c0,.slice none 0 0,.bool false,.slice none 0 0]->bL w' w.heap.size 25 (N:Int) (k:Int)->w'.cell? ⟨MBN,0,none⟩=some (.slice (some ⟨g,0,none⟩) L c0)/\w'.cell? ⟨w.heap.size,0,none⟩=some (.int .i64 (N:Int))/\w'.cell? ⟨w.heap.size,1,none⟩=some (.int .i64 (k:Int))):=fun w' h1 h2=>⟨h1.cell 0,h2.cells.1,h2.cells.2⟩;have hS:w5.drew.cell? ⟨MBN,0,none⟩=some (.slice (some ⟨g,0,none⟩) L c0)/\w5.drew.cell? ⟨w.heap.size,0,none⟩=some (.int .i64 (N:Int))/\w5.drew.cell? ⟨w.heap.size,1,none⟩=some (.int .i64 (k:Int)):=mk.out w5.drew Y5 G5;have Y5H:=aa Y5;have G5H:=aa G5;have M5H:=aa M5;have B5H:=aa B5;have R5H:=aa R5;clear Y5 G5 M5 B5 R5;generalize hPP:dN (gl id (N:Int) (k:Int) (j:Int))=P at HTK;refine ah.start (S:=fun w'=>w'.cell? ⟨MBN,0,none⟩=some (.slice (some ⟨g,0,none⟩) L c0)/\w'.cell? ⟨w.heap.size,0,none⟩=some (.int .i64 (N:Int))/\w'.cell? ⟨w.heap.size,1,none⟩=some (.int .i64 (k:Int))) (k:=11) (by kernel_rfl) ?_
   refine ah.take (i:=0) (v:=?_) rfl (by kernel_rfl) (by kernel_rfl) (by kernel_rfl) (by kernel_rfl) (fun _ _ _ h=>h) (Or.inl ⟨by rfl,?_⟩) hS ?_
   rotate_left 1
   . (intro w hSw;(try dsimp only at hSw);go_split_ands;go_simp;first|done|with_reducible rfl)
   simp only [Act.put,List.setIfInBounds_toArray,List.set_cons_zero,List.set_cons_succ]
   refine ah.take (i:=1) (v:=?_) rfl (by kernel_rfl) (by kernel_rfl) (by kernel_rfl) (by kernel_rfl) (fun _ _ _ h=>h) (Or.inl ⟨by rfl,?_⟩) hS ?_
   rotate_left 1
   . (intro w hSw;(try dsimp only at hSw);go_split_ands;go_simp;first|done|with_reducible rfl)
   simp only [Act.put,List.setIfInBounds_toArray,List.set_cons_zero,List.set_cons_succ]
   refine ah.take (i:=2) (v:=?_) rfl (by kernel_rfl) (by kernel_rfl) (by kernel_rfl) (by kernel_rfl) (fun _ _ _ h=>h) (Or.inl ⟨by rfl,?_⟩) hS ?_
   rotate_left 1
   . (intro w hSw;(try dsimp only at hSw);go_split_ands;go_simp;first|done|with_reducible rfl)
   simp only [Act.put,List.setIfInBounds_toArray,List.set_cons_zero,List.set_cons_succ]
   refine ah.take (i:=3) (v:=?_) rfl (by kernel_rfl) (by kernel_rfl) (by kernel_rfl) (by kernel_rfl) (fun _ _ _ h=>h) (Or.inl ⟨by rfl,?_⟩) hS ?_
   rotate_left 1
   . (intro w hSw;(try dsimp only at hSw);go_split_ands;go_simp;first|done|with_reducible rfl)
   simp only [Act.put,List.setIfInBounds_toArray,List.set_cons_zero,List.set_cons_succ]
   refine ah.take (i:=4) (v:=?_) rfl (by kernel_rfl) (by kernel_rfl) (by kernel_rfl) (by kernel_rfl) (fun _ _ _ h=>h) (Or.inl ⟨by rfl,?_⟩) hS ?_
   rotate_left 1
   . (intro w hSw;(try dsimp only at hSw);go_split_ands;go_simp;first|done|with_reducible rfl)
   simp only [Act.put,List.setIfInBounds_toArray,List.set_cons_zero,List.set_cons_succ]
   refine ah.take (i:=5) (v:=?_) rfl (by kernel_rfl) (by kernel_rfl) (by kernel_rfl) (by kernel_rfl) (fun _ _ _ h=>h) (Or.inl ⟨by rfl,?_⟩) hS ?_
   rotate_left 1
   . (intro w hSw;(try dsimp only at hSw);go_split_ands;go_simp;first|done|with_reducible rfl)
   simp only [Act.put,List.setIfInBounds_toArray,List.set_cons_zero,List.set_cons_succ]
   refine ah.take (i:=6) (v:=?_) rfl (by kernel_rfl) (by kernel_rfl) (by kernel_rfl) (by kernel_rfl) (fun _ _ _ h=>h) (Or.inl ⟨by rfl,?_⟩) hS ?_
   rotate_left 1
   . (intro w hSw;(try dsimp only at hSw);go_split_ands;go_simp;first|done|with_reducible rfl)
   simp only [Act.put,List.setIfInBounds_toArray,List.set_cons_zero,List.set_cons_succ]
   refine ah.take (i:=7) (v:=?_) rfl (by kernel_rfl) (by kernel_rfl) (by kernel_rfl) (by kernel_rfl) (fun _ _ _ h=>h) (Or.inl ⟨by rfl,?_⟩) hS ?_
   rotate_left 1
   . (intro w hSw;(try dsimp only at hSw);go_split_ands;go_simp;first|done|with_reducible rfl)
   simp only [Act.put,List.setIfInBounds_toArray,List.set_cons_zero,List.set_cons_succ]
   refine ah.take (i:=8) (v:=?_) rfl (by kernel_rfl) (by kernel_rfl) (by kernel_rfl) (by kernel_rfl) (fun _ _ _ h=>h) (Or.inl ⟨by rfl,?_⟩) hS ?_
   rotate_left 1
   . (intro w hSw;(try dsimp only at hSw);go_split_ands;go_simp;first|done|with_reducible rfl)
   simp only [Act.put,List.setIfInBounds_toArray,List.set_cons_zero,List.set_cons_succ]
   refine ah.one (i:=9) (by kernel_rfl) rfl (fun K hK=>?_)
   go_simp
   refine (gQ _ (gl id (N:Int) (k:Int) (j:Int))).mono ?_
   rintro e w6 ⟨ap,lp,cp,rfl,o6,b6'⟩;have b6:Below w5.heap.size w5 w6:=(Below.refl w5.heap.size w5).drew.trans b6';have o6b:aA.Own w6 w5.heap.size w6.heap.size [.slice ap lp cp] P:=by rw [←hPP];exact o6
   have HPP:=aa hPP;clear hPP;obtain ⟨fpp,mp,rp⟩:=o6b.mine;have z6:=b6.size;have Y6:=Y5H.out.below b6 (by omega);have G6:=G5H.out.below b6 (by omega);have M6:=M5H.out.below b6;have hS6:w6.cell? ⟨MBN,0,none⟩=some (.slice (some ⟨g,0,none⟩) L c0)/\w6.cell? ⟨w.heap.size,0,none⟩=some (.int .i64 (N:Int))/\w6.cell? ⟨w.heap.size,1,none⟩=some (.int .i64 (k:Int)):=mk.out w6 Y6 G6;obtain ⟨⟨old,cOld⟩,fz,hgm,fpA,mA,rA⟩:=gK (j:=0) rfl M6 (by omega) mp (fun b hb hb'=>by have h1:=rp b hb;have h2:=R5H.out b hb';omega);rw [rQ hk8] at mA;have hgr:=R5H.out g hgm;have nMg:¬MBN=g:=by omega
   have nMg2:¬g=MBN:=by omega
   have Y7:Box (w6.setCell ⟨g,0,none⟩ (.slice ap lp cp)) MBN 101 #[.slice (some ⟨g,0,none⟩) L c0,.slice none 0 0,.bool false,.slice none 0 0]:=Y6.other (by omega) 0 _;have B7:Below wo.heap.size wo (w6.setCell ⟨g,0,none⟩ (.slice ap lp cp)):=((B5H.out.trans (b6.mono (by omega))).setCell (show wo.heap.size<=g by omega) _);have R7:∀b∈fpA,wo.heap.size<=b/\b≠MBN:=fun b hb=>by
    rcases rA b hb with h|h
    . have:=R5H.out b h;omega
    have:=rp b h;omega
   have z7:MBN<(w6.setCell ⟨g,0,none⟩ (.slice ap lp cp)).heap.size:=Y7.lt;have Y7H:=aa Y7;have B7H:=aa B7;have M7H:=aa mA;have R7H:=aa R7;clear Y6 G6 M6 mp rp o6 o6b b6 b6' mA rA Y7 B7 R7 Y5H G5H M5H B5H R5H;go_wp2_with fail
   refine hK.out _ _ (fun _=>hS6) ?_
   clear hK K;refine ah.take (i:=10) (v:=?_) rfl (by kernel_rfl) (by kernel_rfl) (by kernel_rfl) (by kernel_rfl) (fun _ _ _ h=>h) (Or.inl ⟨by rfl,?_⟩) hS6 ?_
   rotate_left 1
   . (intro w hSw;(try dsimp only at hSw);go_split_ands;go_simp;first|done|with_reducible rfl)
   simp only [Act.put,List.setIfInBounds_toArray,List.set_cons_zero,List.set_cons_succ]
   refine ah.one (i:=11) (by kernel_rfl) rfl (fun K hK=>?_)
   go_simp
   refine hK.out _ _ (fun h=>absurd rfl h) ?_
   clear hK K;refine ah.done (by kernel_rfl) ?_ _
   clear hS hS6 cOld fz mk;generalize w6.setCell ⟨g,0,none⟩ (.slice ap lp cp)=w7 at Y7H B7H M7H z7 ⊢;have zm7:=B7H.out.size;go_wp2
   go_loopw [8] (fun i wi=>∃(q:Nat) (fq:List Nat),q<=k/\i=.int .i64 q/\Below wo.heap.size wo wi/\Box wi MBN 101 #[.slice (some ⟨g,0,none⟩) L c0,.slice none 0 0,.bool false,.slice none 0 0]/\aT.Mine wi [.slice (some ⟨g,0,none⟩) L c0] (fD P k q) fq/\(∀b∈fq,wo.heap.size<=b/\b≠MBN)) (fun i _=>k-(intOf i).toNat)
   case atStart=>exact ⟨0,_,Nat.zero_le _,rfl,B7H.out,Y7H.out,M7H.out,R7H.out⟩
   obtain ⟨q,fq,hq,rfl,bi,yi,mi,ri⟩:=hrel;have gi:=GBR.out.below bi GBR.out.lt;obtain ⟨q0,q1⟩:=gi.cells;have zi:=bi.size;have zy:=yi.lt;by_cases hqk:q<k
   . have k3:(q:Int)<(k:Int):=by omega
     obtain ⟨Q,hQ⟩:∃Q:Nat,6+q=Q:=⟨_,rfl⟩;have hd:bV (q:Int)=(Q:Int):=by unfold bV;rw [if_pos (by omega)];omega
     have bl:=ae wr (.cells #[.int .i64 0] 3);have zl:(wr.alloc (.cells #[.int .i64 0] 3)).heap.size=wr.heap.size+1:=by simp
     have ol:=aR (bj.lit .i64 3 wr [0] 1 #[.int .i64 0] rfl rfl (by unfold maxLen;omega));obtain ⟨fl,ml,rl⟩:=ol.mine;have yl:=yi.alloc (.cells #[.int .i64 0] 3);obtain ⟨⟨old,cOld⟩,fz,hgm,fpA,mA,rA⟩:=gK (j:=Q) rfl (mi.alloc (.cells #[.int .i64 0] 3)) (by omega) ml (fun b hb hb'=>by have h1:=rl b hb;have h2:=mi.lt b hb';omega);rw [←hQ,ts hqk,hQ] at mA;have hgr:=ri g hgm;have nMg:¬MBN=g:=by omega
     have nMg2:¬g=MBN:=by omega
     have YN:Hid (Box ((wr.alloc (.cells #[.int .i64 0] 3)).setCell ⟨g,Q,none⟩ (.slice (some ⟨wr.heap.size,0,none⟩) 1 1)) MBN 101 #[.slice (some ⟨g,0,none⟩) L c0,.slice none 0 0,.bool false,.slice none 0 0]):=yl.other (by omega) _ _;have BN:Hid (Below wo.heap.size wo ((wr.alloc (.cells #[.int .i64 0] 3)).setCell ⟨g,Q,none⟩ (.slice (some ⟨wr.heap.size,0,none⟩) 1 1))):=((bi.trans (bl.mono zi)).setCell (show wo.heap.size<=g by omega) _);have RN:Hid (∀b∈fpA,wo.heap.size<=b/\b≠MBN):=fun b hb=>by
      rcases rA b hb with h|h
      . exact ri b h
      have:=rl b h;omega
     have MN:=aa mA;have hS:wr.drew.cell? ⟨MBN,0,none⟩=some (.slice (some ⟨g,0,none⟩) L c0):=yi.cell 0;have hS1:(wr.alloc (.cells #[.int .i64 0] 3)).drew.cell? ⟨MBN,0,none⟩=some (.slice (some ⟨g,0,none⟩) L c0):=yl.cell 0;have i1:(0:Int)<=(Q:Int):=by omega
     have i2:(Q:Int)<(L:Int):=by omega
     have i3:Q<L:=by omega
     have HD:=aa hd;clear mA rA ml rl ol bl yl yi mi ri bi gi hd hQ;go_wp2_with fail
     refine bw.start (S:=fun w'=>w'.cell? ⟨MBN,0,none⟩=some (.slice (some ⟨g,0,none⟩) L c0)) (k:=6) (by kernel_rfl) ?_
     refine bw.take (i:=0) (v:=?_) rfl (by kernel_rfl) (by kernel_rfl) (by kernel_rfl) (by kernel_rfl) (fun _ _ _ h=>h) (Or.inl ⟨by rfl,?_⟩) hS ?_
     rotate_left 1
     . (intro w hSw;(try dsimp only at hSw);go_split_ands;go_simp;first|done|with_reducible rfl)
     simp only [Act.put,List.setIfInBounds_toArray,List.set_cons_zero,List.set_cons_succ]
     refine bw.take (i:=1) (v:=?_) rfl (by kernel_rfl) (by kernel_rfl) (by kernel_rfl) (by kernel_rfl) (fun _ _ _ h=>h) (Or.inl ⟨by rfl,?_⟩) hS ?_
     rotate_left 1
     . (intro w hSw;(try dsimp only at hSw);go_split_ands;go_simp;first|done|with_reducible rfl)
     simp only [Act.put,List.setIfInBounds_toArray,List.set_cons_zero,List.set_cons_succ]
     refine bw.take (i:=2) (v:=?_) rfl (by kernel_rfl) (by kernel_rfl) (by kernel_rfl) (by kernel_rfl) (fun _ _ _ h=>h) (Or.inl ⟨by rfl,?_⟩) hS ?_
     rotate_left 1
     . (intro w hSw;(try dsimp only at hSw);go_split_ands;go_simp;first|done|with_reducible rfl)
     simp only [Act.put,List.setIfInBounds_toArray,List.set_cons_zero,List.set_cons_succ]
     refine bw.two (i:=3) (i':=4) (by kernel_rfl) rfl rfl (fun K hK=>?_) (fun K hK=>?_)
     . go_simp
       refine (cz _ _).mono ?_
       rintro e w9 ⟨rfl,h9⟩;subst h9;rw [HD.out];go_wp2_with fail
       refine hK.out _ _ (fun _=>hS) ?_
       clear hK K;refine bw.one (i:=4) (by kernel_rfl) rfl (fun K hK=>?_)
       go_simp
       refine hK.out _ _ (fun _=>hS1) ?_
       clear hK K;refine bw.take (i:=5) (v:=?_) rfl (by kernel_rfl) (by kernel_rfl) (by kernel_rfl) (by kernel_rfl) (fun _ _ _ h=>h) (Or.inl ⟨by rfl,?_⟩) hS1 ?_
       rotate_left 1
       . (intro w hSw;(try dsimp only at hSw);go_split_ands;go_simp;first|done|with_reducible rfl)
       simp only [Act.put,List.setIfInBounds_toArray,List.set_cons_zero,List.set_cons_succ]
       refine bw.one (i:=6) (by kernel_rfl) rfl (fun K hK=>?_)
       go_simp
       refine hK.out _ _ (fun h=>absurd rfl h) ?_
       clear hK K;refine bw.done (by kernel_rfl) ?_ _
       go_wp2
       go_roundw
       case rel=>exact ⟨q+1,fpA,by omega,by go_num,BN.out.drew,YN.out,MN.out,RN.out⟩
       case measure=>simp [intOf];omega
     go_simp
     refine hK.out _ _ (fun _=>hS1) ?_
     clear hK K;refine bw.one (i:=3) (by kernel_rfl) rfl (fun K hK=>?_)
     go_simp
     refine (cz _ _).mono ?_
     rintro e w9 ⟨rfl,h9⟩;subst h9;rw [HD.out];go_wp2_with fail
     refine hK.out _ _ (fun _=>hS1) ?_
     clear hK K;refine bw.take (i:=5) (v:=?_) rfl (by kernel_rfl) (by kernel_rfl) (by kernel_rfl) (by kernel_rfl) (fun _ _ _ h=>h) (Or.inl ⟨by rfl,?_⟩) hS1 ?_
     rotate_left 1
     . (intro w hSw;(try dsimp only at hSw);go_split_ands;go_simp;first|done|with_reducible rfl)
     simp only [Act.put,List.setIfInBounds_toArray,List.set_cons_zero,List.set_cons_succ]
     refine bw.one (i:=6) (by kernel_rfl) rfl (fun K hK=>?_)
     go_simp
     refine hK.out _ _ (fun h=>absurd rfl h) ?_
     clear hK K;refine bw.done (by kernel_rfl) ?_ _
     go_wp2
     go_roundw
     case rel=>exact ⟨q+1,fpA,by omega,by go_num,BN.out.drew,YN.out,MN.out,RN.out⟩
     case measure=>simp [intOf];omega
   have eq:q=k:=by omega
   subst eq;have om:=ch (E:=171) (f:=false) (lo:=wo.heap.size) (hi:=wr.heap.size) (l1:=wr.heap.size) (u1:=wr.heap.size) (l3:=wr.heap.size) (u3:=wr.heap.size) (mi.own (lo:=wo.heap.size) (hi:=wr.heap.size) (fun b hb=>⟨(ri b hb).1,mi.lt b hb⟩)) (ij _ _ _) (ij _ _ _) (.inl (Nat.le_refl _)) (.inl (Nat.le_refl _)) (.inl (Nat.le_refl _)) ⟨Nat.le_refl _,Nat.le_refl _⟩ ⟨zi,Nat.le_refl _⟩ ⟨zi,Nat.le_refl _⟩;obtain ⟨fpx,mx,rx⟩:=om.mine;have xoc:=XO.out.below bi (by omega);obtain ⟨r0,r1,r2,r3,r4,r5,r6,r7,r8,r9,r10,r11,r12⟩:=xoc.cells13;obtain ⟨y0,y1,y2,y3⟩:=yi.cells4;have XOC:=aa xoc;have MX:=aa mx;have RX:=aa rx;have HBC:=aa bi;have zB:(wr.alloc (.cells #[.slice (some ⟨g,0,none⟩) L c0,.slice none 0 0,.bool false,.slice none 0 0] 101)).heap.size=wr.heap.size+1:=by simp
   clear xoc mx rx om yi mi ri gi bi;go_wp2_with (at_builtin;refine bT (bR 171) rfl _ _ 26 rfl 101 i4 (.agg #[.slice none 0 0,.slice none 0 0,.bool false,.slice none 0 0]) 80 Tryz.underlying26 hi4 hz0 hz1 hz2 rfl (by decide) v0 (gp id (N:Int) (q:Int) j) fp0 rfl ?_ ⟨wr.heap.size,0,none⟩ 1 [.slice (some ⟨g,0,none⟩) L c0,.slice none 0 0,.bool false,.slice none 0 0] (fD P q q,[],false,[]) fpx rfl ?_ ?_ ?_ ?_ ?_ ?_ ?_;exact (HM.out.below HBC.out).alloc _;exact MX.out.alloc _;(intro b hb hb';have h1:=HM.out.lt b hb;have h2:=RX.out b hb';omega);exact bk _ _ _;(intro u hu;simp at hu;rcases hu with hu|hu|hu|hu<;>(rw [hu];rfl));exact L1.out;exact L2.out;intro v9 wA fpA m1 m2 m3;rw [←HTK.out] at m1;obtain ⟨ea,ca,hv9⟩:=az m1.rd;rw [jn] at hv9;subst hv9;have ya:=(XOC.out.alloc (.cells #[.slice (some ⟨g,0,none⟩) L c0,.slice none 0 0,.bool false,.slice none 0 0] 101)).turned m3 (fun hm=>by have:=HFP.out _ hm;omega);have rr3:wA.cell? ⟨BO,3,none⟩=some v0:=ya.cell 3;have fz:=ya.frozen 3;have YA:=aa ya;have M1:=aa m1;have M2:=aa m2;have M3:=aa m3;clear ya m1 m2 m3)
   have HFA:=aa (dC (N:=LB) zLw HBC.out HFP.out RX.out M2.out);have FRA:=aa (Fr.round FRR.out zLw HBC.out _ M3.out HFP.out 3 (.slice ea (j+1) ca));have MA:=aa (M1.out.setCell (g:=BO) (j:=3) (fun hm=>by have:=HFA.out _ hm;omega) (.slice ea (j+1) ca));have YA':=aa (YA.out.set 3 (.slice ea (j+1) ca));go_roundw
   case rel=>exact ⟨j+1,_,fpA,by omega,by go_num,FRA.out,YA'.out,MA.out,HFA.out⟩
   case measure=>simp [intOf];omega
 have ej:j=N:=by omega
 subst ej;have hlt:=hm.lt;obtain ⟨eM,gM,hvM⟩:=az hm.rd;rw [jn] at hvM;subst hvM;have KM:=hm.own (lo:=LB) (hi:=wo.heap.size) (fun b hb=>⟨hfp b hb,hlt b hb⟩);have xr:=fr.box XR2.out (by omega) (by omega);have hbt:=bN (w.heap.size+1) [(0,.int .i64 id),(1,.int .i64 (j:Int)),(2,.int .i64 (k:Int)),(3,.slice eM j gM),(4,.int .i64 (-1)),(5,.int .i64 0),(6,.int .i64 0),(7,.int .i64 0),(8,.int .i64 0),(9,.slice none 0 0),(10,.int .i64 (-1)),(11,.bool false),(12,.bool false)] wo;have hsz:=hbt.size;have FO:=aa ((KM.but hbt (.inr (by omega))).widen (lo':=w.heap.size) (by omega) hsz);have FB:=aa (Below.andBut hb hbt (by omega));simp only [bK] at FO FB
 obtain ⟨p0,p1,p2,p3,p4,p5,p6,p7,p8,p9,p10,p11,p12⟩:=xr.cells13;have fz:=xr.frozen;obtain ⟨r0,r1,r2,r3,r4,r5,r6,r7,r8,r9,r10,r11,r12⟩:=xo.cells13;clear fr xo hb hm hfp hlt xr KM hbt hsz gb hj hs;go_wp2
 refine bodyPost_ret (v:=.agg #[.int .i64 id,.int .i64 (j:Int),.int .i64 (k:Int),.slice eM j gM,.int .i64 (-1),.int .i64 0,.int .i64 0,.int .i64 0,.int .i64 0,.slice none 0 0,.int .i64 (-1),.bool false,.bool false]) (by simp [results,Tryz.results148,go_sem,p0,p1,p2,p3,p4,p5,p6,p7,p8,p9,p10,p11,p12]) rfl ?_
 have hnl:(gp id (j:Int) (k:Int) (j:Int).toNat).length=j:=by rw [jn];simp
 exact ⟨eM,gM,by rw [HY.out.1,HY.out.2,hnl],by rw [HY.out.2,hnl,Int.toNat_natCast];exact FO.out,FB.out⟩
theorem uI {id n s:Int} (hg:bF n s=true) (hi:inB id 1 60000=true):cA 0 (iC id n s,jc id n s) []:=by
 have hB:pn id n s=true:=by unfold pn;rw [hg,hi];rfl
 obtain ⟨g1,g2,g3,g4⟩:=aB.1 hg;have hx:iC id n s=⟨id,n,s,-1,0,0,0,0,-1,false,false⟩:=by unfold iC;rw [if_pos hB]
 have hm:jc id n s=gp id n s n.toNat:=by unfold jc;rw [if_pos hB]
 refine ⟨bf.2 ?_,?_,?_,?_,?_⟩
 . rw [hx,hm]
   refine ⟨hg,hi,dH.2 ⟨fun i d hd=>?_,?_⟩,rfl,?_,?_⟩
   . unfold gp at hd
     have hil:i<n.toNat:=by have:=(List.getElem?_eq_some_iff.1 hd).1;simpa using this
     rw [List.getElem?_map,List.getElem?_range hil] at hd;simp only [Option.map_some,Option.some.injEq] at hd
     subst hd;have hP:=vC (oH (role:=(i:Int)) hg hi (by omega) (by omega));have hl:=jo (dN (gl id n s (i:Int))) s.toNat s.toNat (Nat.le_refl _);refine ⟨(ec _ _ _).2 ⟨fun x hx=>?_,by simp [oG],rfl,?_,by simp [oG]⟩,?_,fun hf=>?_⟩
     . obtain ⟨q,hq⟩:=List.mem_iff_getElem?.1 hx
       have hq':(fD (dN (gl id n s (i:Int))) s.toNat s.toNat)[q]?=some x:=hq;have hql:=(List.getElem?_eq_some_iff.1 hq').1;rw [kK (Nat.le_refl _) (by omega)] at hq';simp only [Option.some.injEq] at hq'
       subst hq';split
       . exact hP
       split<;>rfl
     . rw [aI]
       show (1:Int)<=((fD (dN (gl id n s (i:Int))) s.toNat s.toNat).length:Int)/\((fD (dN (gl id n s (i:Int))) s.toNat s.toNat).length:Int)<=20
       omega
     . show ((fD (dN (gl id n s (i:Int))) s.toNat s.toNat).length:Int)=6+s
       omega
     cases hf
   . unfold gp
     simp
     omega
   . unfold dq
     simp only [Bool.and_eq_true,aI,Bool.or_eq_true,Bool.not_eq_true',decide_eq_true_eq,decide_eq_false_iff_not]
     exact ⟨⟨by omega,by omega⟩,⟨by omega,by omega⟩,.inr trivial⟩
   rw [fL];simp
 . rw [hx];exact ⟨rfl,rfl⟩
 . rw [hx]
 . rw [hx];exact Int.le_refl _
 rw [hx];exact Int.le_refl _
def uJ (w:World) (g:Nat) (a:Option Addr) (lb cb:Nat) (zs:List Int) (G:Int) (e:Ending) (w':World):Prop:=
 ∃(q:al×List ai) (ds:List aF) (bm bd:Option Addr) (cm cd:Nat) (fm fd:List Nat),e=.returned (.agg (aC q.1 (.slice bm q.2.length cm) (.slice bd ds.length cd)))/\(bt 171 101).Mine w' [.slice bm q.2.length cm] q.2 fm/\(aU 90).Mine w' [.slice bd ds.length cd] ds fd/\(∀b∈fm,b∉fd)/\(∀b∈fm,w.heap.size<=b)/\(∀b∈fd,w.heap.size<=b)/\cA G q ds/\aO w' g a lb cb zs/\Fr w.heap.size g w w'
theorem tu {w:World} {g lb cb:Nat} {a:Option Addr} {zs:List Int} (h:aO w g a lb cb zs):
 Calls Tryz.prog 150 #[.pointer (some ⟨g,0,none⟩)] w fun e w'=>∃n s:Int,e=.returned (.agg #[.int .i64 n,.int .i64 s])/\bF n s=true/\aO w' g a lb cb zs/\But g (g+1) w w':=by
 have hg:=h.lt;have R0:=Box.new w 25 #[.int .i64 0,.int .i64 0];have D0:=h.alloc (.cells #[.int .i64 0,.int .i64 0] 25);have hz:(w.alloc (.cells #[.int .i64 0,.int .i64 0] 25)).heap.size=w.heap.size+1:=by simp
 have b0:But g (g+1) w (w.alloc (.cells #[.int .i64 0,.int .i64 0] 25)):=But.of_below (ae w _);have hz':w.heap.size+1<=(w.alloc (.cells #[.int .i64 0,.int .i64 0] 25)).heap.size:=by omega
 clear hz h;go_enter Tryz.func150,Tryz.ntmps150
 go_wp2_with fail
 generalize w.alloc (.cells #[.int .i64 0,.int .i64 0] 25)=w0 at R0 D0 b0 hz' ⊢;refine (bJ D0 3 (by omega) (by omega)).mono ?_
 rintro e w1 ⟨x,rfl,x0,x1,d1,b1⟩;have R1:=R0.kept (b1.block w.heap.size R0.lt (by omega));have B1:=b0.trans b1;have z1:=b1.size;have gw1:IntKind.i64.wrap (3+x)=3+x:=IntWalk.i64_in _ (by omega);clear R0 D0 b0 b1;go_wp2_with fail
 refine (bJ d1 4 (by omega) (by omega)).mono ?_
 rintro e w2 ⟨y,rfl,y0,y1,d2,b2⟩;have R2:=R1.kept (b2.block w.heap.size R1.lt (by omega));have gw2:IntKind.i64.wrap (1+y)=1+y:=IntWalk.i64_in _ (by omega);have z2:=b2.size;have s0:=R2.cell 0;have s1:=R2.cell 1;have fz:=R2.frozen;have HG:Hid (bF (3+x) (1+y)=true):=aB.2 ⟨by omega,by omega,by omega,by omega⟩;have bs:But w.heap.size (w.heap.size+1) w2 ((w2.setCell ⟨w.heap.size,0,none⟩ (.int .i64 (3+x))).setCell ⟨w.heap.size,1,none⟩ (.int .i64 (1+y))):=(But.setCell (by omega) (by omega) _).trans (But.setCell (by omega) (by omega) _);have HD:=aa (d2.lower (bs.below (B:=w.heap.size) (Nat.le_refl _) (by omega)) hg);have HB:Hid (But g (g+1) w ((w2.setCell ⟨w.heap.size,0,none⟩ (.int .i64 (3+x))).setCell ⟨w.heap.size,1,none⟩ (.int .i64 (1+y)))):=by
  have h2:=B1.trans b2;refine ⟨bs.os.trans h2.os,bs.tape.trans h2.tape,bs.output.trans h2.output,Nat.le_trans h2.size bs.size,fun k hk ho=>?_⟩
  rw [bs.block k (by have:=h2.size;omega) (by omega),h2.block k hk ho]
 clear R1 R2 d1 d2 b2 B1 bs;go_wp2
 refine bodyPost_ret (v:=.agg #[.int .i64 (3+x),.int .i64 (1+y)]) (by simp [results,Tryz.results150,go_sem,s0,s1]) rfl ?_
 exact ⟨_,_,rfl,HG.out,HD.out,HB.out⟩
theorem rR {w:World} {g lb cb:Nat} {a:Option Addr} {zs:List Int} (h:aO w g a lb cb zs) (most:Int) (h0:0<=most) (h1:most<=200):
 Calls Tryz.prog 69 #[.pointer (some ⟨g,0,none⟩),.int .i64 most] w fun e w'=>uJ w g a lb cb zs 30000 e w':=by
 have hg:=h.lt;have R0:=Box.new w 29 #[.int .i64 0,.int .i64 0,.int .i64 0,.slice none 0 0,.int .i64 0,.int .i64 0,.int .i64 0,.int .i64 0,.int .i64 0,.slice none 0 0,.int .i64 0,.bool false,.bool false];have D0:=h.alloc (.cells #[.int .i64 0,.int .i64 0,.int .i64 0,.slice none 0 0,.int .i64 0,.int .i64 0,.int .i64 0,.int .i64 0,.int .i64 0,.slice none 0 0,.int .i64 0,.bool false,.bool false] 29);have B0:Fr w.heap.size g w (w.alloc (.cells #[.int .i64 0,.int .i64 0,.int .i64 0,.slice none 0 0,.int .i64 0,.int .i64 0,.int .i64 0,.int .i64 0,.int .i64 0,.slice none 0 0,.int .i64 0,.bool false,.bool false] 29)):=Fr.ofBelow (ae w _) (Nat.le_refl _);have hz':w.heap.size+1<=(w.alloc (.cells #[.int .i64 0,.int .i64 0,.int .i64 0,.slice none 0 0,.int .i64 0,.int .i64 0,.int .i64 0,.int .i64 0,.int .i64 0,.slice none 0 0,.int .i64 0,.bool false,.bool false] 29)).heap.size:=by simp
 clear h;go_enter Tryz.func69,Tryz.ntmps69
 go_wp2_with fail
 generalize w.alloc (.cells #[.int .i64 0,.int .i64 0,.int .i64 0,.slice none 0 0,.int .i64 0,.int .i64 0,.int .i64 0,.int .i64 0,.int .i64 0,.slice none 0 0,.int .i64 0,.bool false,.bool false] 29)=w0 at R0 D0 B0 hz' ⊢;refine (bJ D0 2 (by omega) (by omega)).mono ?_
 rintro e w1 ⟨x,rfl,x0,x1,d1,b1⟩;have R1:=R0.kept (b1.block w.heap.size R0.lt (by omega));have B1:=B0.trans (b1.fr (by omega));have z1:=b1.size;have gw1:IntKind.i64.wrap (1+x)=1+x:=IntWalk.i64_in _ (by omega);clear R0 D0 B0 b1;go_wp2_with fail
 refine (tu d1).mono ?_
 rintro e w2 ⟨n,s,rfl,hgeo,d2,b2⟩;have R2:=R1.kept (b2.block w.heap.size R1.lt (by omega));have B2:=B1.trans (b2.fr (by omega));have z2:=b2.size;clear R1 d1 B1 b2;have HGD:=aa (uI (id:=1+x) hgeo (aI.2 ⟨by omega,by omega⟩));go_wp2_with fail
 refine (mT _ (1+x) n s).mono ?_
 rintro e w3 ⟨am,cm,rfl,o3,b3⟩;generalize iC (1+x) n s=y at HGD ⊢;generalize jc (1+x) n s=ms at HGD o3 ⊢;have bn:=ae w3 (.cells #[.int .i64 y.id,.int .i64 y.n,.int .i64 y.s,.slice am ms.length cm,.int .i64 y.lost,.int .i64 y.vG,.int .i64 y.seq,.int .i64 y.tail,.int .i64 y.gen,.slice none 0 0,.int .i64 y.vI,.bool y.down,.bool y.vH] 29);have R4:=(R2.below b3 R2.lt).alloc (.cells #[.int .i64 y.id,.int .i64 y.n,.int .i64 y.s,.slice am ms.length cm,.int .i64 y.lost,.int .i64 y.vG,.int .i64 y.seq,.int .i64 y.tail,.int .i64 y.gen,.slice none 0 0,.int .i64 y.vI,.bool y.down,.bool y.vH] 29);have B4:=(B2.trans (Fr.ofBelow b3 (by omega))).trans (Fr.ofBelow bn (by have:=b3.size;omega));have z3:=b3.size;have Y:=Box.new w3 29 #[.int .i64 y.id,.int .i64 y.n,.int .i64 y.s,.slice am ms.length cm,.int .i64 y.lost,.int .i64 y.vG,.int .i64 y.seq,.int .i64 y.tail,.int .i64 y.gen,.slice none 0 0,.int .i64 y.vI,.bool y.down,.bool y.vH];have zY:=Y.lt;have D4:=(d2.lower b3 (by omega)).alloc (.cells #[.int .i64 y.id,.int .i64 y.n,.int .i64 y.s,.slice am ms.length cm,.int .i64 y.lost,.int .i64 y.vG,.int .i64 y.seq,.int .i64 y.tail,.int .i64 y.gen,.slice none 0 0,.int .i64 y.vI,.bool y.down,.bool y.vH] 29);obtain ⟨fm,mm,rm⟩:=(o3.below bn).mine;have S4:Hid (At6 (w3.alloc (.cells #[.int .i64 y.id,.int .i64 y.n,.int .i64 y.s,.slice am ms.length cm,.int .i64 y.lost,.int .i64 y.vG,.int .i64 y.seq,.int .i64 y.tail,.int .i64 y.gen,.slice none 0 0,.int .i64 y.vI,.bool y.down,.bool y.vH] 29)) g a lb cb zs (w.heap.size+1) w3.heap.size 0):=⟨(y,ms),[],fm,[],D4,⟨am,none,cm,0,Y,mm,⟨.inl ⟨rfl,rfl,rfl⟩,List.nodup_nil⟩,fun _ _=>by simp,fun hm=>by have:=rm _ hm;omega,by simp⟩,HGD.out,⟨by omega,by omega,by omega⟩,fun b hb=>by have:=rm b hb;omega,by simp⟩;clear R2 B2 d2 b3 o3 bn Y mm rm D4 HGD;have hmf:IntKind.i64.wrap (most+1)=most+1:=IntWalk.i64_in _ (by omega);go_wp2_with fail
 generalize w3.alloc (.cells #[.int .i64 y.id,.int .i64 y.n,.int .i64 y.s,.slice am ms.length cm,.int .i64 y.lost,.int .i64 y.vG,.int .i64 y.seq,.int .i64 y.tail,.int .i64 y.gen,.slice none 0 0,.int .i64 y.vI,.bool y.down,.bool y.vH] 29)=w4 at R4 B4 zY S4 ⊢;obtain ⟨B,hB⟩:∃B,w3.heap.size=B:=⟨_,rfl⟩;rw [hB] at zY S4 ⊢;have zB:w.heap.size<B:=by omega
 clear hB;have HS:=S4.out;obtain ⟨qq,dd,ff,fe,HS⟩:=HS;have D4:=HS.1;clear HS;refine (bJ D4 (most+1) (by omega) (by omega)).mono ?_
 rintro e w5 ⟨t,rfl,t0,t1,d5,b5⟩;have z5:=b5.size;have zW4:w.heap.size+1<=w4.heap.size:=by omega
 have R5:=R4.kept (b5.block w.heap.size R4.lt (by omega));have B5:=aa (B4.trans (b5.fr (by omega)));have S5:Hid (At6 w5 g a lb cb zs (w.heap.size+1) B 0):=by
  obtain ⟨q,ds,fm,fd,h⟩:=S4.out;exact ⟨q,ds,fm,fd,h.draw d5 b5⟩
 clear S4 R4 B4 d5 b5 D4;obtain ⟨k,rfl⟩:=Int.eq_ofNat_of_zero_le t0;have hk:k<=200:=by omega
 have HR5:=aa R5;clear R5 t0 t1;go_wp2
 go_loopw [6] (fun iv wr=>∃j:Nat,j<=200/\iv=.int .i64 j/\At6 wr g a lb cb zs (w.heap.size+1) B (101*(200-(j:Int)))/\Fr (w.heap.size+1) g w5 wr) (fun iv _=>(intOf iv).toNat)
 case atStart=>exact ⟨k,hk,rfl,S5.out.more (by omega),Fr.refl _ _ _⟩
 obtain ⟨j,hj,rfl,hA,hF⟩:=hrel;have zr:=hF.size;by_cases hj0:0<j
 . have HT:=aa (rO wr g a lb cb zs (w.heap.size+1) B _ hA (by omega))
   have HF:=aa hF;have k1:(j:Int)>0:=by omega
   have k2:(0:Int)<(j:Int):=by omega
   clear hA hF;go_wp2_with fail
   refine HT.out.mono ?_
   rintro e w6 ⟨rfl,hA,hF⟩;have HN:Hid (At6 w6 g a lb cb zs (w.heap.size+1) B (101*(200-((j-1:Nat):Int)))):=hA.more (by omega);have HF2:=aa (HF.out.trans hF);clear hA hF HT;go_wp2
   go_roundw
   case rel=>exact ⟨j-1,by omega,by go_num,HN.out,HF2.out⟩
   case measure=>simp [intOf];omega
 have k1:¬(j:Int)>0:=by omega
 obtain ⟨⟨q0,n0⟩,ds,fm,fd,D,⟨bm,bd,cm2,cd2,Y,mm,md,hr,r1,r2⟩,GD,⟨e1,e2,e3⟩,hm,hd⟩:=hA;dsimp only at Y mm
 have R6:=hF.box HR5.out (by omega) (by omega);have B6:=B5.out.trans (⟨hF.os,hF.tape,hF.output,hF.size,fun k hk hne=>hF.block k (by omega) hne⟩:Fr w.heap.size g w5 wr);have hbt:=bN w.heap.size [(0,.int .i64 q0.id),(1,.int .i64 q0.n),(2,.int .i64 q0.s),(3,.slice bm n0.length cm2),(4,.int .i64 q0.lost),(5,.int .i64 q0.vG),(6,.int .i64 q0.seq),(7,.int .i64 q0.tail),(8,.int .i64 q0.gen),(9,.slice bd ds.length cd2),(10,.int .i64 q0.vI),(11,.bool q0.down),(12,.bool q0.vH)] wr;have HO:Hid (uJ w g a lb cb zs 30000 (.returned (.agg (aC q0 (.slice bm n0.length cm2) (.slice bd ds.length cd2)))) (bK wr w.heap.size [(0,.int .i64 q0.id),(1,.int .i64 q0.n),(2,.int .i64 q0.s),(3,.slice bm n0.length cm2),(4,.int .i64 q0.lost),(5,.int .i64 q0.vG),(6,.int .i64 q0.seq),(7,.int .i64 q0.tail),(8,.int .i64 q0.gen),(9,.slice bd ds.length cd2),(10,.int .i64 q0.vI),(11,.bool q0.down),(12,.bool q0.vH)])):=⟨(q0,n0),ds,bm,bd,cm2,cd2,fm,fd,rfl,mm.but hbt (fun b hb=>by have:=hm b hb;omega),md.but hbt (fun b hb=>by have:=hd b hb;omega),hr,fun b hb=>by have:=hm b hb;omega,fun b hb=>by have:=hd b hb;omega,GD.more (by omega),D.lower (hbt.below (B:=w.heap.size) (Nat.le_refl _) (by omega)) hg,B6.trans ⟨hbt.os,hbt.tape,hbt.output,hbt.size,fun k hk _=>hbt.block k (by omega) (by omega)⟩⟩;unfold aC at HO Y;simp only [bK] at HO
 obtain ⟨t0,t1,t2,t3,t4,t5,t6,t7,t8,t9,t10,t11,t12⟩:=Y.cells13;obtain ⟨s0,s1,s2,s3,s4,s5,s6,s7,s8,s9,s10,s11,s12⟩:=R6.cells13;have fz:=R6.frozen;clear Y mm md R6 B6 hbt D GD hF;go_wp2
 refine bodyPost_ret (v:=.agg #[.int .i64 q0.id,.int .i64 q0.n,.int .i64 q0.s,.slice bm n0.length cm2,.int .i64 q0.lost,.int .i64 q0.vG,.int .i64 q0.seq,.int .i64 q0.tail,.int .i64 q0.gen,.slice bd ds.length cd2,.int .i64 q0.vI,.bool q0.down,.bool q0.vH]) (by simp [results,Tryz.results69,go_sem,s0,s1,s2,s3,s4,s5,s6,s7,s8,s9,s10,s11,s12]) rfl ?_
 exact HO.out
def Any6 (w:World) (g:Nat) (a:Option Addr) (lb cb:Nat) (zs:List Int) (e:Ending) (w':World):Prop:=
 ∃(x:al) (ms:List ai) (ds:List aF) (vm vd:Option Addr) (cvm cvd:Nat) (fd:List Nat),e=.returned (.agg (aC x (.slice vm ms.length cvm) (.slice vd ds.length cvd)))/\(bt 171 101).In w' w.heap.size w'.heap.size [.slice vm ms.length cvm] ms/\(aU 90).Mine w' [.slice vd ds.length cvd] ds fd/\(∀b∈fd,w.heap.size<=b)/\(aM ms ds<=100000/\-64<=x.n/\x.n<=64)/\aO w' g a lb cb zs/\Below g w w'
def T6 (w W:World) (g R B lb cb:Nat) (a:Option Addr) (zs:List Int) (x:al) (ms:List ai) (ds:List aF) (vm vd:Option Addr) (cvm cvd:Nat) (fd:List Nat):Prop:=
 aO W g a lb cb zs/\Below g w W/\Box W R 29 #[.int .i64 0,.int .i64 0,.int .i64 0,.slice none 0 0,.int .i64 0,.int .i64 0,.int .i64 0,.int .i64 0,.int .i64 0,.slice none 0 0,.int .i64 0,.bool false,.bool false]/\Box W B 29 (aC x (.slice vm ms.length cvm) (.slice vd ds.length cvd))/\(bt 171 101).In W (R+1) W.heap.size [.slice vm ms.length cvm] ms/\(aU 90).Mine W [.slice vd ds.length cvd] ds fd/\(∀b∈fd,R<b)/\g<R/\w.heap.size<=R/\R<B/\(aM ms ds<=100000/\-64<=x.n/\x.n<=64)
def S6 (w W:World) (g R B lb cb:Nat) (a:Option Addr) (zs:List Int) (x:al) (ms:List ai) (ds:List aF) (vm vd:Option Addr) (cvm cvd:Nat) (fm fd:List Nat):Prop:=
 aO W g a lb cb zs/\Below g w W/\Box W R 29 #[.int .i64 0,.int .i64 0,.int .i64 0,.slice none 0 0,.int .i64 0,.int .i64 0,.int .i64 0,.int .i64 0,.int .i64 0,.slice none 0 0,.int .i64 0,.bool false,.bool false]/\Box W B 29 (aC x (.slice vm ms.length cvm) (.slice vd ds.length cvd))/\(bt 171 101).Mine W [.slice vm ms.length cvm] ms fm/\(aU 90).Mine W [.slice vd ds.length cvd] ds fd/\(∀b∈fm,b∉fd/\R<b/\b≠B)/\(∀b∈fd,R<b/\b≠B)/\g<R/\w.heap.size<=R/\R<B/\(aM ms ds<=20000/\-64<=x.n/\x.n<=64)
theorem uK {G:Int} {x:al} {ms:List ai} {ds:List aF} (h:cA G (x,ms) ds):3<=ms.length/\ms.length<=5:=by
 obtain ⟨p1,_,p3,_⟩:=bf.1 h.1;have g1:=aB.1 p1;have m1:=(dH.1 p3).2;dsimp only at g1 m1
 omega
theorem good_n {G:Int} {x:al} {ms:List ai} {ds:List aF} (h:cA G (x,ms) ds):-64<=x.n/\x.n<=64:=by
 obtain ⟨p1,_⟩:=bf.1 h.1;have g1:=aB.1 p1;dsimp only at g1
 omega
theorem tv {G:Int} {x:al} {ms:List ai} {ds:List aF} (h:cA G (x,ms) ds):∀(k:Nat) (d:ai),ms[k]?=some d->6<d.1.length:=fun k d hd=>by
 obtain ⟨p1,_,p3,_⟩:=bf.1 h.1;have g1:=aB.1 p1;have m1:=((dH.1 p3).1 k d hd).2.1;dsimp only at g1 m1
 omega
theorem S6.tail {w W:World} {g R B lb cb:Nat} {a:Option Addr} {zs:List Int} {x:al} {ms:List ai} {ds:List aF} {vm vd:Option Addr} {cvm cvd:Nat} {fm fd:List Nat} (h:S6 w W g R B lb cb a zs x ms ds vm vd cvm cvd fm fd):T6 w W g R B lb cb a zs x ms ds vm vd cvm cvd fd:=by
 obtain ⟨h1,h2,h3,h4,h5,h6,h7,h8,h9,h10,h11,h12⟩:=h;exact ⟨h1,h2,h3,h4,h5.toIn (fun b hb=>⟨(h7 b hb).2.1,h5.lt b hb⟩),h6,fun b hb=>(h8 b hb).1,h9,h10,h11,by omega⟩
theorem S6.below {w W:World} {g R B lb cb:Nat} {a:Option Addr} {zs:List Int} {x:al} {ms:List ai} {ds:List aF} {vm vd:Option Addr} {cvm cvd:Nat} {fm fd:List Nat} {W':World} (h:S6 w W g R B lb cb a zs x ms ds vm vd cvm cvd fm fd) (hb:Below W.heap.size W W'):S6 w W' g R B lb cb a zs x ms ds vm vd cvm cvd fm fd:=by
 obtain ⟨h1,h2,h3,h4,h5,h6,h7,h8,h9,h10,h11,h12⟩:=h;have z:=h3.lt;exact ⟨h1.lower hb (by omega),h2.trans (hb.mono (by omega)),h3.below hb h3.lt,h4.below hb h4.lt,h5.below hb,h6.below hb,h7,h8,h9,h10,h11,h12⟩
theorem S6.draw {w W:World} {g R B lb cb:Nat} {a:Option Addr} {zs:List Int} {x:al} {ms:List ai} {ds:List aF} {vm vd:Option Addr} {cvm cvd:Nat} {fm fd:List Nat} {W':World} (h:S6 w W g R B lb cb a zs x ms ds vm vd cvm cvd fm fd) (hd:aO W' g a lb cb zs) (hb:But g (g+1) W W'):S6 w W' g R B lb cb a zs x ms ds vm vd cvm cvd fm fd:=by
 obtain ⟨h1,h2,h3,h4,h5,h6,h7,h8,h9,h10,h11,h12⟩:=h;have z:=h3.lt;exact ⟨hd,h2.trans (hb.below (Nat.le_refl _) (by omega)),h3.kept (hb.block _ h3.lt (by omega)),h4.kept (hb.block _ h4.lt (by omega)),h5.but hb (fun b hb'=>by have:=(h7 b hb').2.1;omega),h6.but hb (fun b hb'=>by have:=(h8 b hb').1;omega),h7,h8,h9,h10,h11,h12⟩
theorem S6.set {w W:World} {g R B lb cb:Nat} {a:Option Addr} {zs:List Int} {x:al} {ms:List ai} {ds:List aF} {vm vd:Option Addr} {cvm cvd:Nat} {fm fd:List Nat} {x':al} (h:S6 w W g R B lb cb a zs x ms ds vm vd cvm cvd fm fd) (hn:-64<=x'.n/\x'.n<=64) (j:Nat) (v:Value) (hx:(aC x (.slice vm ms.length cvm) (.slice vd ds.length cvd)).setIfInBounds j v=aC x' (.slice vm ms.length cvm) (.slice vd ds.length cvd)):S6 w (W.setCell ⟨B,j,none⟩ v) g R B lb cb a zs x' ms ds vm vd cvm cvd fm fd:=by
 obtain ⟨h1,h2,h3,h4,h5,h6,h7,h8,h9,h10,h11,h12⟩:=h;have z:=h3.lt;have hbt:But B (B+1) W (W.setCell ⟨B,j,none⟩ v):=But.setCell (Nat.le_refl _) (Nat.lt_succ_self _) v;exact ⟨h1.lower (hbt.below (B:=g+1) (by omega) (by omega)) (by omega),h2.trans (hbt.below (by omega) (by omega)),h3.kept (hbt.block _ h3.lt (by omega)),hx▸h4.set j v,h5.setCell (fun hm=>(h7 B hm).2.2 rfl) v,h6.setCell (fun hm=>(h8 B hm).2 rfl) v,h7,h8,h9,h10,h11,h12.1,hn⟩
theorem S6.nb {w W:World} {g R B lb cb:Nat} {a:Option Addr} {zs:List Int} {x:al} {ms:List ai} {ds:List aF} {vm vd:Option Addr} {cvm cvd:Nat} {fm fd:List Nat} (h:S6 w W g R B lb cb a zs x ms ds vm vd cvm cvd fm fd):-64<=x.n/\x.n<=64:=h.2.2.2.2.2.2.2.2.2.2.2.2
theorem T6.out {w W:World} {g R B lb cb:Nat} {a:Option Addr} {zs:List Int} {x:al} {ms:List ai} {ds:List aF} {vm vd:Option Addr} {cvm cvd:Nat} {fd:List Nat} (h:T6 w W g R B lb cb a zs x ms ds vm vd cvm cvd fd):Any6 w g a lb cb zs (.returned (.agg (aC x (.slice vm ms.length cvm) (.slice vd ds.length cvd)))) (bK W R [(0,.int .i64 x.id),(1,.int .i64 x.n),(2,.int .i64 x.s),(3,.slice vm ms.length cvm),(4,.int .i64 x.lost),(5,.int .i64 x.vG),(6,.int .i64 x.seq),(7,.int .i64 x.tail),(8,.int .i64 x.gen),(9,.slice vd ds.length cvd),(10,.int .i64 x.vI),(11,.bool x.down),(12,.bool x.vH)]):=by
 obtain ⟨h1,h2,h3,h4,h5,h6,h7,h8,h9,h10,h11⟩:=h;have z:=h3.lt;have hbt:=bN R [(0,.int .i64 x.id),(1,.int .i64 x.n),(2,.int .i64 x.s),(3,.slice vm ms.length cvm),(4,.int .i64 x.lost),(5,.int .i64 x.vG),(6,.int .i64 x.seq),(7,.int .i64 x.tail),(8,.int .i64 x.gen),(9,.slice vd ds.length cvd),(10,.int .i64 x.vI),(11,.bool x.down),(12,.bool x.vH)] W;exact ⟨x,ms,ds,vm,vd,cvm,cvd,fd,rfl,(h5.but hbt (.inr (Nat.le_refl _))).widen (by omega) hbt.size,h6.but hbt (fun b hb=>by have:=h7 b hb;omega),fun b hb=>by have:=h7 b hb;omega,h11,h1.lower (hbt.below (B:=g+1) (by omega) (by omega)) (by omega),h2.trans (hbt.below (by omega) (by omega))⟩
theorem mU {w:World} {B:Nat} {T:TypeId} {z0 z1 z2 z3 z4 z5 z6 z7 z8 z9 z10 z11 z12:Value} (h:Box w B T #[z0,z1,z2,z3,z4,z5,z6,z7,z8,z9,z10,z11,z12]) (c0 c1 c2 c3 c4 c5 c6 c7 c8 c9 c10 c11 c12:Value):Box (bK w B [(0,c0),(1,c1),(2,c2),(3,c3),(4,c4),(5,c5),(6,c6),(7,c7),(8,c8),(9,c9),(10,c10),(11,c11),(12,c12)]) B T #[c0,c1,c2,c3,c4,c5,c6,c7,c8,c9,c10,c11,c12]:=by
 simp only [bK]
 have:=(((((((((((((h.set 0 c0).set 1 c1).set 2 c2).set 3 c3).set 4 c4).set 5 c5).set 6 c6).set 7 c7).set 8 c8).set 9 c9).set 10 c10).set 11 c11).set 12 c12);simpa using this
def Drw (w w':World) (v:Value):Prop:=
 ∃(x:al) (ms:List ai) (ds:List aF) (vm vd:Option Addr) (cvm cvd:Nat) (fd:List Nat),v=.agg (aC x (.slice vm ms.length cvm) (.slice vd ds.length cvd))/\(bt 171 101).In w' w.heap.size w'.heap.size [.slice vm ms.length cvm] ms/\(aU 90).Mine w' [.slice vd ds.length cvd] ds fd/\(∀b∈fd,w.heap.size<=b)/\(aM ms ds<=100000/\-64<=x.n/\x.n<=64)/\Below w.heap.size w w'
def DrwE (w:World) (e:Ending) (w':World):Prop:=∃v,e=.returned v/\Drw w w' v
def D8 (w W:World) (R N M g:Nat) (a:Option Addr) (lb cb:Nat) (zs:List Int) (rc:Array Value) (x:al) (ms:List ai) (ds:List aF) (vm vd:Option Addr) (cvm cvd:Nat) (fd:List Nat):Prop:=
 aO W g a lb cb zs/\Below R w W/\Box W R 29 rc/\(bt 171 101).In W N M [.slice vm ms.length cvm] ms/\(aU 90).Mine W [.slice vd ds.length cvd] ds fd/\(∀b∈fd,N<=b/\b<M)/\w.heap.size=R/\R<g/\g<N/\N<=M/\M<=W.heap.size/\(0<lb->∀q,a=some q->q.block<R)/\(aM ms ds<=100000/\-64<=x.n/\x.n<=64)
theorem aO.apart {w w':World} {g lb cb R:Nat} {a:Option Addr} {zs:List Int} (h:aO w g a lb cb zs) (hb:But R (R+1) w w') (hR:R<g) (ha:0<lb->∀q,a=some q->q.block<R):aO w' g a lb cb zs:=
 ⟨h.cur.but hb (.inr (by omega)),h.len,h.reads.lower (hb.below (B:=R) (Nat.le_refl _) (by have:=h.lt;omega)) (by rw [h.len];exact ha),h.bytes,h.few,h.ahead⟩
theorem D8.below {w W:World} {R N M g lb cb:Nat} {a:Option Addr} {zs:List Int} {rc:Array Value} {x:al} {ms:List ai} {ds:List aF} {vm vd:Option Addr} {cvm cvd:Nat} {fd:List Nat} {W':World} (h:D8 w W R N M g a lb cb zs rc x ms ds vm vd cvm cvd fd) (hb:Below W.heap.size W W'):D8 w W' R N M g a lb cb zs rc x ms ds vm vd cvm cvd fd:=by
 obtain ⟨h1,h2,h3,h4,h5,h6,h7,h8,h9,h10,h11,h12,h13⟩:=h;have z:=h3.lt;have zg:=h1.lt;have zb:=hb.size;exact ⟨h1.lower hb (by omega),h2.trans (hb.mono (by omega)),h3.below hb h3.lt,h4.below hb,h5.below hb,h6,h7,h8,h9,h10,by omega,h12,h13⟩
theorem D8.draw {w W:World} {R N M g lb cb:Nat} {a:Option Addr} {zs:List Int} {rc:Array Value} {x:al} {ms:List ai} {ds:List aF} {vm vd:Option Addr} {cvm cvd:Nat} {fd:List Nat} {W':World} (h:D8 w W R N M g a lb cb zs rc x ms ds vm vd cvm cvd fd) (hd:aO W' g a lb cb zs) (hb:But g (g+1) W W'):D8 w W' R N M g a lb cb zs rc x ms ds vm vd cvm cvd fd:=by
 obtain ⟨h1,h2,h3,h4,h5,h6,h7,h8,h9,h10,h11,h12,h13⟩:=h;have z:=h3.lt;have zb:=hb.size;exact ⟨hd,h2.trans (hb.below (by omega) (by omega)),h3.kept (hb.block _ h3.lt (by omega)),h4.but hb (.inr (by omega)),h5.but hb (fun b hb'=>by have:=(h6 b hb').1;omega),h6,h7,h8,h9,h10,by omega,h12,h13⟩
theorem D8.num {w W:World} {R N M g lb cb:Nat} {a:Option Addr} {zs:List Int} {rc:Array Value} {x:al} {ms:List ai} {ds:List aF} {vm vd:Option Addr} {cvm cvd:Nat} {fd:List Nat} {x':al} (h:D8 w W R N M g a lb cb zs rc x ms ds vm vd cvm cvd fd) (hn:x'.n=x.n):D8 w W R N M g a lb cb zs rc x' ms ds vm vd cvm cvd fd:=by
 obtain ⟨h1,h2,h3,h4,h5,h6,h7,h8,h9,h10,h11,h12,h13⟩:=h;exact ⟨h1,h2,h3,h4,h5,h6,h7,h8,h9,h10,h11,h12,h13.1,by rw [hn];exact h13.2⟩
theorem D8.put {w W:World} {R N M g lb cb:Nat} {a:Option Addr} {zs:List Int} {rc:Array Value} {x:al} {ms:List ai} {ds:List aF} {vm vd:Option Addr} {cvm cvd:Nat} {fd:List Nat} {B:Nat} (h:D8 w W R N M g a lb cb zs rc x ms ds vm vd cvm cvd fd) (hB:M<=B) (l:List (Nat×Value)):D8 w (bK W B l) R N M g a lb cb zs rc x ms ds vm vd cvm cvd fd:=by
 obtain ⟨h1,h2,h3,h4,h5,h6,h7,h8,h9,h10,h11,h12,h13⟩:=h;have z:=h3.lt;have zg:=h1.lt;have hbt:=bN B l W;have zb:=hbt.size;exact ⟨h1.lower (hbt.below (B:=g+1) (by omega) (by omega)) (by omega),h2.trans (hbt.below (by omega) (by omega)),h3.kept (hbt.block _ h3.lt (by omega)),h4.but hbt (.inl hB),h5.but hbt (fun b hb=>by have:=(h6 b hb).2;omega),h6,h7,h8,h9,h10,by omega,h12,h13⟩
theorem D8.store {w W:World} {R N M g lb cb:Nat} {a:Option Addr} {zs:List Int} {x:al} {ms:List ai} {ds:List aF} {vm vd:Option Addr} {cvm cvd:Nat} {fd:List Nat} {z0 z1 z2 z3 z4 z5 z6 z7 z8 z9 z10 z11 z12:Value} (h:D8 w W R N M g a lb cb zs #[z0,z1,z2,z3,z4,z5,z6,z7,z8,z9,z10,z11,z12] x ms ds vm vd cvm cvd fd):D8 w (bK W R [(0,.int .i64 x.id),(1,.int .i64 x.n),(2,.int .i64 x.s),(3,.slice vm ms.length cvm),(4,.int .i64 x.lost),(5,.int .i64 x.vG),(6,.int .i64 x.seq),(7,.int .i64 x.tail),(8,.int .i64 x.gen),(9,.slice vd ds.length cvd),(10,.int .i64 x.vI),(11,.bool x.down),(12,.bool x.vH)]) R N M g a lb cb zs (aC x (.slice vm ms.length cvm) (.slice vd ds.length cvd)) x ms ds vm vd cvm cvd fd:=by
 obtain ⟨h1,h2,h3,h4,h5,h6,h7,h8,h9,h10,h11,h12,h13⟩:=h;have z:=h3.lt;have hbt:=bN R [(0,.int .i64 x.id),(1,.int .i64 x.n),(2,.int .i64 x.s),(3,.slice vm ms.length cvm),(4,.int .i64 x.lost),(5,.int .i64 x.vG),(6,.int .i64 x.seq),(7,.int .i64 x.tail),(8,.int .i64 x.gen),(9,.slice vd ds.length cvd),(10,.int .i64 x.vI),(11,.bool x.down),(12,.bool x.vH)] W;have zb:=hbt.size;exact ⟨h1.apart hbt h8 h12,h2.trans (hbt.below (by omega) (by omega)),mU h3 (.int .i64 x.id) (.int .i64 x.n) (.int .i64 x.s) (.slice vm ms.length cvm) (.int .i64 x.lost) (.int .i64 x.vG) (.int .i64 x.seq) (.int .i64 x.tail) (.int .i64 x.gen) (.slice vd ds.length cvd) (.int .i64 x.vI) (.bool x.down) (.bool x.vH),h4.but hbt (.inr (by omega)),h5.but hbt (fun b hb=>by have:=(h6 b hb).1;omega),h6,h7,h8,h9,h10,by omega,h12,h13⟩
theorem sE {w W:World} {R lo hi:Nat} {x:al} {ms:List ai} {ds:List aF} {vm vd:Option Addr} {cvm cvd:Nat} {fd:List Nat} (hR:w.heap.size=R) (hb:Below R w W) (hm:(bt 171 101).In W lo hi [.slice vm ms.length cvm] ms) (hd:(aU 90).Mine W [.slice vd ds.length cvd] ds fd) (hl:R<lo) (hh:hi<=W.heap.size) (hf:∀b∈fd,R<b) (hwt:aM ms ds<=100000/\-64<=x.n/\x.n<=64) (hz:R<W.heap.size):
 Drw w (bK W R [(0,.int .i64 x.id),(1,.int .i64 x.n),(2,.int .i64 x.s),(3,.slice vm ms.length cvm),(4,.int .i64 x.lost),(5,.int .i64 x.vG),(6,.int .i64 x.seq),(7,.int .i64 x.tail),(8,.int .i64 x.gen),(9,.slice vd ds.length cvd),(10,.int .i64 x.vI),(11,.bool x.down),(12,.bool x.vH)]) (.agg (aC x (.slice vm ms.length cvm) (.slice vd ds.length cvd))):=by
 have hbt:=bN R [(0,.int .i64 x.id),(1,.int .i64 x.n),(2,.int .i64 x.s),(3,.slice vm ms.length cvm),(4,.int .i64 x.lost),(5,.int .i64 x.vG),(6,.int .i64 x.seq),(7,.int .i64 x.tail),(8,.int .i64 x.gen),(9,.slice vd ds.length cvd),(10,.int .i64 x.vI),(11,.bool x.down),(12,.bool x.vH)] W;have zb:=hbt.size;exact ⟨x,ms,ds,vm,vd,cvm,cvd,fd,rfl,(hm.but hbt (.inr (by omega))).widen (by omega) (by omega),hd.but hbt (fun b hb'=>by have:=hf b hb';omega),fun b hb'=>by have:=hf b hb';omega,hwt,hR▸hb.trans (hbt.below (by omega) (by omega))⟩
theorem D8.out {w W:World} {R N M g lb cb:Nat} {a:Option Addr} {zs:List Int} {x:al} {ms:List ai} {ds:List aF} {vm vd:Option Addr} {cvm cvd:Nat} {fd:List Nat} {rc:Array Value} (h:D8 w W R N M g a lb cb zs rc x ms ds vm vd cvm cvd fd):DrwE w (.returned (.agg (aC x (.slice vm ms.length cvm) (.slice vd ds.length cvd)))) (bK W R [(0,.int .i64 x.id),(1,.int .i64 x.n),(2,.int .i64 x.s),(3,.slice vm ms.length cvm),(4,.int .i64 x.lost),(5,.int .i64 x.vG),(6,.int .i64 x.seq),(7,.int .i64 x.tail),(8,.int .i64 x.gen),(9,.slice vd ds.length cvd),(10,.int .i64 x.vI),(11,.bool x.down),(12,.bool x.vH)]):=by
 obtain ⟨h1,h2,h3,h4,h5,h6,h7,h8,h9,h10,h11,h12,h13⟩:=h;exact ⟨_,rfl,sE h7 h2 h4 h5 (by omega) h11 (fun b hb=>by have:=(h6 b hb).1;omega) h13 h3.lt⟩
theorem D8.drw {w W:World} {R N M g lb cb:Nat} {a:Option Addr} {zs:List Int} {x:al} {ms:List ai} {ds:List aF} {vm vd:Option Addr} {cvm cvd:Nat} {fd:List Nat} {rc:Array Value} (h:D8 w W R N M g a lb cb zs rc x ms ds vm vd cvm cvd fd):Drw w W (.agg (aC x (.slice vm ms.length cvm) (.slice vd ds.length cvd))):=by
 obtain ⟨h1,h2,h3,h4,h5,h6,h7,h8,h9,h10,h11,h12,h13⟩:=h;exact ⟨x,ms,ds,vm,vd,cvm,cvd,fd,rfl,h4.widen (by omega) h11,h5,fun b hb=>by have:=(h6 b hb).1;omega,h13,h7▸h2⟩
theorem Drw.out {w W w2:World} {R:Nat} {v:Value} (hR:w.heap.size=R) (hz:R<W.heap.size) (hb:Below R w W) (h:Drw W w2 v):∃(x:al) (ms:List ai) (ds:List aF) (vm vd:Option Addr) (cvm cvd:Nat),v=.agg (aC x (.slice vm ms.length cvm) (.slice vd ds.length cvd))/\DrwE w (.returned (.agg (aC x (.slice vm ms.length cvm) (.slice vd ds.length cvd)))) (bK w2 R [(0,.int .i64 x.id),(1,.int .i64 x.n),(2,.int .i64 x.s),(3,.slice vm ms.length cvm),(4,.int .i64 x.lost),(5,.int .i64 x.vG),(6,.int .i64 x.seq),(7,.int .i64 x.tail),(8,.int .i64 x.gen),(9,.slice vd ds.length cvd),(10,.int .i64 x.vI),(11,.bool x.down),(12,.bool x.vH)]):=by
 obtain ⟨x,ms,ds,vm,vd,cvm,cvd,fd,rfl,hm,hd,hf,hwt,b2⟩:=h;have zb:=b2.size;exact ⟨x,ms,ds,vm,vd,cvm,cvd,rfl,_,rfl,sE hR (hb.trans (b2.mono (by omega))) hm hd (by omega) (Nat.le_refl _) (fun b hb'=>by have:=hf b hb';omega) hwt (by omega)⟩
theorem aw.belowN {N:Nat} {fp:List Nat} {w w':World} (h:aw fp w w') (hN:N<=w.heap.size) (hf:∀b∈fp,N<=b):Below N w w':=
 ⟨h.os,h.tape,h.output,h.size,fun k hk=>h.block k (by omega) (fun hm=>by have:=hf k hm;omega)⟩
theorem sF {t:Ty} {E:TypeId} {w:World} {g n cap:Nat} {d:List t.D} {fp:List Nat} (h:(bQ t E).Mine w [.slice (some ⟨g,0,none⟩) n cap] d fp):g∈fp:=by
 obtain ⟨h,_⟩:=h;rcases h with ⟨h1,_⟩|⟨b,cap',cur,fps,h1,_,_,_,_,hf,_⟩
 . simp at h1
 simp at h1
 rw [hf,h1.1];simp
theorem qy (l:List Nat) (k y:Nat):ei (l.set k y)<=ei l+y:=by
 induction l generalizing k with
 | nil=>simp [ei]
 | cons h t ih=>
  cases k with
  | zero=>simp only [List.set_cons_zero,ei,List.foldr_cons];omega
  | succ k=>simp only [List.set_cons_succ,ei,List.foldr_cons] at ih ⊢;have:=ih k;omega
theorem mV (ms:List ai) (k:Nat) (d:ai):aV (ms.set k d)<=aV ms+aQ d:=by
 unfold aV;rw [List.map_set,List.length_set];have:=qy (ms.map aQ) k (aQ d);omega
theorem qz (ss:List (List Int)) (k:Nat) (d:List Int):cP (ss.set k d)<=cP ss+d.length:=by
 unfold cP;rw [List.map_set,List.length_set];have:=qy (ss.map List.length) k d.length;omega
theorem S6.put {w W:World} {g R B lb cb:Nat} {a:Option Addr} {zs:List Int} {x:al} {ms:List ai} {ds:List aF} {vd:Option Addr} {cvm cvd:Nat} {fm fd:List Nat} {gm k l:Nat} {v0 v1 v2 v3:Value} {d:ai} (h:S6 w W g R B lb cb a zs x ms ds (some ⟨gm,0,none⟩) vd cvm cvd fm fd) (hk:k<ms.length) (hx:(bR 171).In W l W.heap.size [v0,v1,v2,v3] d) (hl:B<l) (hlm:∀b∈fm,b<l) (hwt:aQ d<=2000) (hgm:gm∈fm):
 (∀q,q<4->∃old,W.cell? ⟨gm,k*4+q,none⟩=some old)/\(∀q,W.frozen? ⟨gm,q,none⟩=false)/\T6 w (fi W gm (k*4) v0 v1 v2 v3) g R B lb cb a zs x (ms.set k d) ds (some ⟨gm,0,none⟩) vd cvm cvd fd:=by
 obtain ⟨h1,h2,h3,h4,h5,h6,h7,h8,h9,h10,h11,h12⟩:=h;have z:=h3.lt;obtain ⟨c0,c1,c2⟩:=tH (lo:=R+1) (hi:=W.heap.size) h5 hk hx (.inl (hlm gm hgm)) (fun b hb=>⟨(h7 b hb).2.1,h5.lt b hb⟩) (by omega) (Nat.le_refl _);have ht:=kQ W gm (k*4) v0 v1 v2 v3;have g1:=(h7 gm hgm).2.1;have hbl:Below (g+1) W (fi W gm (k*4) v0 v1 v2 v3):=ht.belowN (by omega) (fun b hb=>by simp at hb;omega);refine ⟨c0,c1,h1.lower hbl (by omega),h2.trans (hbl.mono (by omega)),h3.turned ht (by simp;omega),?_,?_,h6.kept ht (fun b hb hn=>by simp at hn;exact (h7 gm hgm).1 (hn▸hb)),fun b hb=>(h8 b hb).1,h9,h10,h11,?_⟩
 . rw [List.length_set]
   exact h4.turned ht (by simp;exact fun e=>(h7 gm hgm).2.2 e.symm)
 . rw [List.length_set,eP]
   exact c2
 have:=mV ms k d;unfold aM at h12 ⊢;omega
theorem S6.ent {w W:World} {g R B lb cb:Nat} {a:Option Addr} {zs:List Int} {x:al} {ms:List ai} {ds:List aF} {vm vd:Option Addr} {cvm cvd:Nat} {fm fd:List Nat} {W1 W2:World} {gq cap N:Nat} {y:aF} {fp:List Nat} (h:S6 w W g R B lb cb a zs x ms ds vm vd cvm cvd fm fd) (hb:Below W.heap.size W W1) (hM:(aU 90).Mine W2 [.slice (some ⟨gq,0,none⟩) (ds.length+1) cap] (ds++[y]) fp) (hf:∀b∈fp,b∈fd∨N<=b) (hN:B<N) (ht:aw fd W1 W2) (hy:y.2.length<=13):
 T6 w (W2.setCell ⟨B,9,none⟩ (.slice (some ⟨gq,0,none⟩) (ds.length+1) cap)) g R B lb cb a zs x ms (ds++[y]) vm (some ⟨gq,0,none⟩) cvm cap fp:=by
 obtain ⟨h1,h2,h3,h4,h5,h6,h7,h8,h9,h10,h11,h12⟩:=h.below hb;have z:=h3.lt;have z2:=ht.size;have hBf:B∉fp:=fun hm=>by
  rcases hf B hm with h|h
  . exact (h8 B h).2 rfl
  omega
 have hbl:Below (g+1) W1 W2:=ht.belowN (by omega) (fun b hb=>by have:=(h8 b hb).1;omega);have k3:=h3.turned ht (fun hm=>by have:=(h8 R hm).1;omega);have k4:=h4.turned ht (fun hm=>(h8 B hm).2 rfl);have k5:=h5.kept ht (fun b hb=>(h7 b hb).1);have hbt:But B (B+1) W2 (W2.setCell ⟨B,9,none⟩ (.slice (some ⟨gq,0,none⟩) (ds.length+1) cap)):=But.setCell (Nat.le_refl _) (Nat.lt_succ_self _) _;have k5':=k5.setCell (j:=9) (fun hm=>(h7 B hm).2.2 rfl) (.slice (some ⟨gq,0,none⟩) (ds.length+1) cap);refine ⟨(h1.lower hbl (by omega)).lower (hbt.below (B:=g+1) (by omega) (by omega)) (by omega),(h2.trans (hbl.mono (by omega))).trans (hbt.below (by omega) (by omega)),k3.kept (hbt.block _ k3.lt (by omega)),?_,k5'.toIn (fun b hb=>⟨(h7 b hb).2.1,k5'.lt b hb⟩),?_,fun b hb=>?_,h9,h10,h11,?_⟩
 . have:=k4.set 9 (.slice (some ⟨gq,0,none⟩) (ds.length+1) cap)
   rw [List.length_append];exact this
 . rw [List.length_append]
   exact hM.setCell (j:=9) hBf _
 . rcases hf b hb with h|h
   . exact (h8 b h).1
   omega
 unfold aM at h12 ⊢;rw [jK];have:bh [y]=1+y.2.length:=by simp [bh,ei]
 omega
theorem S6.sec {w W:World} {g R B lb cb:Nat} {a:Option Addr} {zs:List Int} {x:al} {ms:List ai} {ds:List aF} {vd:Option Addr} {cvm cvd:Nat} {fm fd:List Nat} {gm k q l:Nat} {v:Value} {z:List Int} {d:ai} (h:S6 w W g R B lb cb a zs x ms ds (some ⟨gm,0,none⟩) vd cvm cvd fm fd) (hd:ms[k]?=some d) (hq:q<d.1.length) (hx:aA.In W l W.heap.size [v] z) (hl:B<l) (hlm:∀b∈fm,b<l) (hz:z.length<=13):
 ∃gs c0,W.cell? ⟨gm,k*4,none⟩=some (.slice (some ⟨gs,0,none⟩) d.1.length c0)/\gs∈fm/\(∃old,W.cell? ⟨gs,q,none⟩=some old)/\W.frozen? ⟨gs,q,none⟩=false/\T6 w (W.setCell ⟨gs,q,none⟩ v) g R B lb cb a zs x (ms.set k (d.1.set q z,d.2)) ds (some ⟨gm,0,none⟩) vd cvm cvd fd:=by
 obtain ⟨ss,cs,f,bs⟩:=d;obtain ⟨h1,h2,h3,h4,h5,h6,h7,h8,h9,h10,h11,h12⟩:=h;have zz:=h3.lt;obtain ⟨gs,c0,e1,e2,e3,e4,e5,e6⟩:=tJ (lo:=R+1) (hi:=W.heap.size) h5 hd hq hx (fun b hb=>.inl (hlm b hb)) (fun b hb=>⟨(h7 b hb).2.1,h5.lt b hb⟩) (by omega) (Nat.le_refl _);have g1:=(h7 gs e2).2.1;have hbt:But gs (gs+1) W (W.setCell ⟨gs,q,none⟩ v):=But.setCell (Nat.le_refl _) (Nat.lt_succ_self _) _;refine ⟨gs,c0,e1,e2,e4,e5,h1.lower (hbt.below (B:=g+1) (by omega) (by omega)) (by omega),h2.trans (hbt.below (by omega) (by omega)),h3.kept (hbt.block _ h3.lt (by omega)),?_,?_,h6.setCell (fun hm=>(h7 gs e2).1 hm) v,fun b hb=>(h8 b hb).1,h9,h10,h11,?_⟩
 . rw [List.length_set]
   exact h4.kept (hbt.block _ h4.lt (by have:=(h7 gs e2).2.2;omega))
 . rw [List.length_set]
   simpa using e6
 have w1:=mV ms k (ss.set q z,cs,f,bs);have w2:=qz ss q z;have w3:=eN hd;unfold aQ at w1 w3;unfold aM at h12 ⊢;dsimp only at w1 w3 ⊢
 omega
end Go.Proofs.YtejeekndbnpmoaaGreat
