/-
 The program's Contents walked. Condition: the array weighs at most 2097152.
-/
import Derived.Test.YtgjomldcnjjpaaaGreatRowArrsSq41
import Derived.Test.YtgjomldcnjjpaaaGreatRowArrsSq34
import Derived.Test.YtgjomldcnjjpaaaGreatRowArrsSq42

set_option maxRecDepth 100000
set_option maxHeartbeats 8000000
set_option linter.unusedSimpArgs false

namespace Go.Proofs.YtgjomldcnjjpaaaGreat
open Go.RowKit

theorem qX {id n s:Int} (h:iu id n s=false):dM id n s=⟨0,0,0,0,0,0,0,0,0,false,false⟩/\dr id n s=[]:=by
 unfold dM dr;rw [if_neg (by simp [h]),if_neg (by simp [h])];exact ⟨rfl,rfl⟩
theorem uh {id n s:Int} (h:iu id n s=true):dM id n s=⟨id,n,s,-1,0,0,0,0,-1,false,false⟩/\dr id n s=eo id n s n.toNat:=by
 unfold dM dr;rw [if_pos h,if_pos h];exact ⟨rfl,rfl⟩
theorem ql (id n:Int) (k i:Nat):mg id n (k:Int) i=(ex (dE (dB id n (k:Int) (i:Int))) k k,[],false,[]):=by unfold mg;rw [Int.toNat_natCast]
theorem oJ (w:World) (id n s:Int):
 Calls Tryz.prog 6 #[.int .i64 id,.agg #[.int .i64 n,.int .i64 s]] w fun e w'=>∃am cm,e=.returned (.agg #[.int .i64 (dM id n s).id,.int .i64 (dM id n s).n,.int .i64 (dM id n s).s,.slice am (dr id n s).length cm,.int .i64 (dM id n s).lost,.int .i64 (dM id n s).xW,.int .i64 (dM id n s).seq,.int .i64 (dM id n s).tail,.int .i64 (dM id n s).gen,.slice none 0 0,.int .i64 (dM id n s).xY,.bool (dM id n s).down,.bool (dM id n s).xX])/\(bI 119 55).Own w' w.heap.size w'.heap.size [.slice am (dr id n s).length cm] (dr id n s)/\Below w.heap.size w w':=by
 obtain ⟨i4,hi4,hz0,hz1,hz2⟩:=info_parts Tryz.infoMem;have hA:=(af w (.cells #[.int .i64 n,.int .i64 s] 25)).alloc (by simp) (.cells #[.int .i64 0,.int .i64 0,.int .i64 0,.slice none 0 0,.int .i64 0,.int .i64 0,.int .i64 0,.int .i64 0,.int .i64 0,.slice none 0 0,.int .i64 0,.bool false,.bool false] 31);have G0:bK ((w.alloc (.cells #[.int .i64 n,.int .i64 s] 25)).alloc (.cells #[.int .i64 0,.int .i64 0,.int .i64 0,.slice none 0 0,.int .i64 0,.int .i64 0,.int .i64 0,.int .i64 0,.int .i64 0,.slice none 0 0,.int .i64 0,.bool false,.bool false] 31)) w.heap.size 25 n s:=(bK.new w 25 n s).below (af _ _) (by simp);have X0:=Box.new (w.alloc (.cells #[.int .i64 n,.int .i64 s] 25)) 31 #[.int .i64 0,.int .i64 0,.int .i64 0,.slice none 0 0,.int .i64 0,.int .i64 0,.int .i64 0,.int .i64 0,.int .i64 0,.slice none 0 0,.int .i64 0,.bool false,.bool false];rw [World.size_alloc] at X0;have zG:=G0.lt;have zX:=X0.lt;obtain ⟨q0,q1⟩:=G0.cells;go_enter Tryz.func6,Tryz.ntmps6
 go_wp2_with fail
 generalize (w.alloc (.cells #[.int .i64 n,.int .i64 s] 25)).alloc (.cells #[.int .i64 0,.int .i64 0,.int .i64 0,.slice none 0 0,.int .i64 0,.int .i64 0,.int .i64 0,.int .i64 0,.int .i64 0,.slice none 0 0,.int .i64 0,.bool false,.bool false] 31)=W at hA G0 X0 zG zX q0 q1 ⊢;refine (dQ _ _ _).mono ?_
 rintro e w1 ⟨rfl,b1⟩;have B1:=Below.andThen hA b1;have G1:=G0.below b1 zG;have X1:=X0.below b1 zX;have z1:=b1.size;clear q0 q1 hA G0 X0 b1;cases hg:bL n s
 . have HZ:=aa (qX (id:=id) (n:=n) (s:=s) (by unfold iu;rw [hg];rfl))
   obtain ⟨p0,p1,p2,p3,p4,p5,p6,p7,p8,p9,p10,p11,p12⟩:=X1.cells13;have fz:=X1.frozen;have hbt:=dj (w.heap.size+1) [(0,.int .i64 0),(1,.int .i64 0),(2,.int .i64 0),(3,.slice none 0 0),(4,.int .i64 0),(5,.int .i64 0),(6,.int .i64 0),(7,.int .i64 0),(8,.int .i64 0),(9,.slice none 0 0),(10,.int .i64 0),(11,.bool false),(12,.bool false)] w1;have FB:=aa (Below.andBut B1 hbt (by omega));simp only [fa] at FB
   clear hbt X1 G1 B1;go_wp2
   refine bodyPost_ret (v:=.agg #[.int .i64 0,.int .i64 0,.int .i64 0,.slice none 0 0,.int .i64 0,.int .i64 0,.int .i64 0,.int .i64 0,.int .i64 0,.slice none 0 0,.int .i64 0,.bool false,.bool false]) (by simp [results,Tryz.results6,go_sem,p0,p1,p2,p3,p4,p5,p6,p7,p8,p9,p10,p11,p12]) rfl ?_
   exact ⟨none,0,by rw [HZ.out.1,HZ.out.2];rfl,by rw [HZ.out.2];exact bS _ _ _,FB.out⟩
 go_wp2_with fail
 refine (cg _ _ _ _).mono ?_
 rintro e wq ⟨rfl,hq⟩;obtain rfl:=hq.symm;cases hid:inB id 1 60000
 . have HZ:=aa (qX (id:=id) (n:=n) (s:=s) (by unfold iu;rw [hg,hid];rfl))
   obtain ⟨p0,p1,p2,p3,p4,p5,p6,p7,p8,p9,p10,p11,p12⟩:=X1.cells13;have fz:=X1.frozen;have hbt:=dj (w.heap.size+1) [(0,.int .i64 0),(1,.int .i64 0),(2,.int .i64 0),(3,.slice none 0 0),(4,.int .i64 0),(5,.int .i64 0),(6,.int .i64 0),(7,.int .i64 0),(8,.int .i64 0),(9,.slice none 0 0),(10,.int .i64 0),(11,.bool false),(12,.bool false)] w1;have FB:=aa (Below.andBut B1 hbt (by omega));simp only [fa] at FB
   clear hbt X1 G1 B1;go_wp2
   refine bodyPost_ret (v:=.agg #[.int .i64 0,.int .i64 0,.int .i64 0,.slice none 0 0,.int .i64 0,.int .i64 0,.int .i64 0,.int .i64 0,.int .i64 0,.slice none 0 0,.int .i64 0,.bool false,.bool false]) (by simp [results,Tryz.results6,go_sem,p0,p1,p2,p3,p4,p5,p6,p7,p8,p9,p10,p11,p12]) rfl ?_
   exact ⟨none,0,by rw [HZ.out.1,HZ.out.2];rfl,by rw [HZ.out.2];exact bS _ _ _,FB.out⟩
 have HY:=aa (uh (id:=id) (n:=n) (s:=s) (by unfold iu;rw [hg,hid];rfl));obtain ⟨g1,g2,g3,g4⟩:=aB.1 hg;obtain ⟨k,rfl⟩:∃k:Nat,s=(k:Int):=⟨s.toNat,by omega⟩;obtain ⟨N,rfl⟩:∃N:Nat,n=(N:Int):=⟨n.toNat,by omega⟩;have HG:=aa hg;have HID:=aa hid;clear hg hid;have bn:=af w1 (.cells #[.int .i64 id,.int .i64 (N:Int),.int .i64 (k:Int),.slice none 0 0,.int .i64 (-1),.int .i64 0,.int .i64 0,.int .i64 0,.int .i64 0,.slice none 0 0,.int .i64 (-1),.bool false,.bool false] 31);have zn:(w1.alloc (.cells #[.int .i64 id,.int .i64 (N:Int),.int .i64 (k:Int),.slice none 0 0,.int .i64 (-1),.int .i64 0,.int .i64 0,.int .i64 0,.int .i64 0,.slice none 0 0,.int .i64 (-1),.bool false,.bool false] 31)).heap.size=w1.heap.size+1:=by simp
 have G2:=G1.below bn (by omega);have X2:=X1.below bn (by omega);have Y2:=Box.new w1 31 #[.int .i64 id,.int .i64 (N:Int),.int .i64 (k:Int),.slice none 0 0,.int .i64 (-1),.int .i64 0,.int .i64 0,.int .i64 0,.int .i64 0,.slice none 0 0,.int .i64 (-1),.bool false,.bool false];have B2:=Below.andThen B1 bn;obtain ⟨q0,q1⟩:=G1.cells;obtain ⟨r0,r1⟩:=G2.cells;clear G1 X1 B1 bn;go_wp2
 generalize w1.alloc (.cells #[.int .i64 id,.int .i64 (N:Int),.int .i64 (k:Int),.slice none 0 0,.int .i64 (-1),.int .i64 0,.int .i64 0,.int .i64 0,.int .i64 0,.slice none 0 0,.int .i64 (-1),.bool false,.bool false] 31)=W2 at zn G2 X2 Y2 B2 r0 r1 ⊢;obtain ⟨BO,hBO⟩:∃BO,w1.heap.size=BO:=⟨_,rfl⟩;rw [hBO] at zn Y2 z1 ⊢;clear hBO q0 q1 r0 r1;obtain ⟨LB,hLB⟩:∃LB,W2.heap.size=LB:=⟨_,rfl⟩;have zLB:LB<=BO+1/\BO+1<=LB/\LB<=W2.heap.size/\W2.heap.size<=LB:=by omega
 clear hLB zn;have XR2:=aa X2;have XO2:=aa Y2;have GB2:=aa G2;have HB2:=aa B2;clear X2 Y2 G2 B2;go_loopw [21] (fun i wr=>∃(j:Nat) (v0:Value) (fp0:List Nat),j<=N/\i=.int .i64 j/\Fr LB BO W2 wr/\Box wr BO 31 #[.int .i64 id,.int .i64 (N:Int),.int .i64 (k:Int),v0,.int .i64 (-1),.int .i64 0,.int .i64 0,.int .i64 0,.int .i64 0,.slice none 0 0,.int .i64 (-1),.bool false,.bool false]/\(bI 119 55).Mine wr [v0] (eo id (N:Int) (k:Int) j) fp0/\(∀b∈fp0,LB<=b)) (fun i _=>N-(intOf i).toNat)
 case atStart=>exact ⟨0,_,[],Nat.zero_le _,rfl,Fr.refl _ _ _,XO2.out,cP _,by simp⟩
 obtain ⟨j,v0,fp0,hj,rfl,fr,xo,hm,hfp⟩:=hrel;have hs:=fr.size;have hb:=HB2.out.trans (fr.below (M:=w.heap.size) (by omega) (by omega));have gb:bK wr w.heap.size 25 (N:Int) (k:Int):=(fr.block _ (by omega) (by omega)).trans GB2.out;by_cases hjn:j<N
 . have k2:(j:Int)<(N:Int):=by omega
   have HTK:=aa (nw id (N:Int) (k:Int) j);rw [ql] at HTK;have HL:=aa (ek id (N:Int) (k:Int) j);have XO:=aa xo;have GBR:=aa gb;have FRR:=aa fr;have HM:=aa hm;have HFP:=aa hfp;have L1:Hid ((eo id (N:Int) (k:Int) j).length+1<=maxLen):=by unfold Hid;rw [HL.out];unfold maxLen;omega
   have L2:Hid (((eo id (N:Int) (k:Int) j).length+1)*80<=140737488355328):=by unfold Hid;rw [HL.out];omega
   have mk:Hid (∀w',Box w' BO 31 #[.int .i64 id,.int .i64 (N:Int),.int .i64 (k:Int),v0,.int .i64 (-1),.int .i64 0,.int .i64 0,.int .i64 0,.int .i64 0,.slice none 0 0,.int .i64 (-1),.bool false,.bool false]->bK w' w.heap.size 25 (N:Int) (k:Int)->w'.cell? ⟨BO,3,none⟩=some (v0)/\w'.cell? ⟨w.heap.size,0,none⟩=some (.int .i64 (N:Int))/\w'.cell? ⟨w.heap.size,1,none⟩=some (.int .i64 (k:Int))):=fun w' h1 h2=>⟨h1.cell 3,h2.cells.1,h2.cells.2⟩;have hS:wr.drew.cell? ⟨BO,3,none⟩=some (v0)/\wr.drew.cell? ⟨w.heap.size,0,none⟩=some (.int .i64 (N:Int))/\wr.drew.cell? ⟨w.heap.size,1,none⟩=some (.int .i64 (k:Int)):=mk.out wr.drew xo gb;have zLw:LB<=wr.heap.size:=by omega
   clear xo hm hfp hb fr gb;go_wp2_with fail
   refine ao.start (S:=fun w'=>w'.cell? ⟨BO,3,none⟩=some (v0)/\w'.cell? ⟨w.heap.size,0,none⟩=some (.int .i64 (N:Int))/\w'.cell? ⟨w.heap.size,1,none⟩=some (.int .i64 (k:Int))) (k:=9) (by kernel_rfl) ?_
   refine ao.take (i:=0) (v:=?_) rfl (by kernel_rfl) (by kernel_rfl) (by kernel_rfl) (by kernel_rfl) (fun _ _ _ h=>h) (Or.inl ⟨by rfl,?_⟩) hS ?_
   rotate_left 1
   . (intro w hSw;(try dsimp only at hSw);go_split_ands;go_simp;first|done|with_reducible rfl)
   simp only [Act.put,List.setIfInBounds_toArray,List.set_cons_zero,List.set_cons_succ]
   refine ao.take (i:=1) (v:=?_) rfl (by kernel_rfl) (by kernel_rfl) (by kernel_rfl) (by kernel_rfl) (fun _ _ _ h=>h) (Or.inl ⟨by rfl,?_⟩) hS ?_
   rotate_left 1
   . (intro w hSw;(try dsimp only at hSw);go_split_ands;go_simp;first|done|with_reducible rfl)
   simp only [Act.put,List.setIfInBounds_toArray,List.set_cons_zero,List.set_cons_succ]
   refine ao.take (i:=2) (v:=?_) rfl (by kernel_rfl) (by kernel_rfl) (by kernel_rfl) (by kernel_rfl) (fun _ _ _ h=>h) (Or.inl ⟨by rfl,?_⟩) hS ?_
   rotate_left 1
   . (intro w hSw;(try dsimp only at hSw);go_split_ands;go_simp;first|done|with_reducible rfl)
   simp only [Act.put,List.setIfInBounds_toArray,List.set_cons_zero,List.set_cons_succ]
   refine ao.take (i:=3) (v:=?_) rfl (by kernel_rfl) (by kernel_rfl) (by kernel_rfl) (by kernel_rfl) (fun _ _ _ h=>h) (Or.inl ⟨by rfl,?_⟩) hS ?_
   rotate_left 1
   . (intro w hSw;(try dsimp only at hSw);go_split_ands;go_simp;first|done|with_reducible rfl)
   simp only [Act.put,List.setIfInBounds_toArray,List.set_cons_zero,List.set_cons_succ]
   refine ao.take (i:=4) (v:=?_) rfl (by kernel_rfl) (by kernel_rfl) (by kernel_rfl) (by kernel_rfl) (fun _ _ _ h=>h) (Or.inl ⟨by rfl,?_⟩) hS ?_
   rotate_left 1
   . (intro w hSw;(try dsimp only at hSw);go_split_ands;go_simp;first|done|with_reducible rfl)
   simp only [Act.put,List.setIfInBounds_toArray,List.set_cons_zero,List.set_cons_succ]
   refine ao.one (i:=5) (by kernel_rfl) rfl (fun K hK=>?_)
   go_simp
   refine (tH _ id (N:Int) (j:Int) k HG.out HID.out (by omega) k2).mono ?_
   rintro e wc ⟨y0,y1,y3,rfl,om,bc⟩;have hbc':Below wr.heap.size wr wc:=(Below.refl wr.heap.size wr).drew.trans bc;have om2:(cu 119).Own wc wr.heap.size wc.heap.size [y0,y1,.bool false,y3] _:=om;obtain ⟨d0,k0,f0,d1,k1,f1,d3,k3,f3,hv0,hv1,hv3⟩:=bZ om2;subst hv0 hv1 hv3;obtain ⟨fpx,mx,rx⟩:=om2.mine;have xoc:=XO.out.below hbc' (by omega);have gbc:=GBR.out.below hbc' (by omega);have hS3:wc.cell? ⟨BO,3,none⟩=some (v0)/\wc.cell? ⟨w.heap.size,0,none⟩=some (.int .i64 (N:Int))/\wc.cell? ⟨w.heap.size,1,none⟩=some (.int .i64 (k:Int)):=mk.out wc xoc gbc;have zc:=hbc'.size;have hS4:(wc.alloc (.cells #[.slice d0 k0 f0,.slice d1 k1 f1,.bool false,.slice d3 k3 f3] 55)).cell? ⟨BO,3,none⟩=some (v0)/\(wc.alloc (.cells #[.slice d0 k0 f0,.slice d1 k1 f1,.bool false,.slice d3 k3 f3] 55)).cell? ⟨w.heap.size,0,none⟩=some (.int .i64 (N:Int))/\(wc.alloc (.cells #[.slice d0 k0 f0,.slice d1 k1 f1,.bool false,.slice d3 k3 f3] 55)).cell? ⟨w.heap.size,1,none⟩=some (.int .i64 (k:Int)):=mk.out _ (xoc.alloc _) (gbc.below (af _ _) gbc.lt);have XOC:=aa xoc;have GBC:=aa gbc;have MX:=aa mx;have RX:=aa rx;have HBC:=aa hbc';clear xoc gbc mx rx hbc' bc om om2;go_wp2_with fail
   refine hK.out _ _ (fun _=>hS3) ?_
   clear hK K;refine ao.one (i:=6) (by kernel_rfl) rfl (fun K hK=>?_)
   go_simp
   refine hK.out _ _ (fun _=>hS4) ?_
   clear hK K;refine ao.one (i:=7) (by kernel_rfl) rfl (fun K hK=>?_)
   refine cS (cu 119) (by rfl) _ _ 28 (by rfl) 55 i4 (.agg #[.slice none 0 0,.slice none 0 0,.bool false,.slice none 0 0]) 80 Tryz.underlying28 hi4 hz0 hz1 hz2 rfl (by decide) v0 (eo id (N:Int) (k:Int) j) fp0 (by rfl) ?_ ⟨wc.heap.size,0,none⟩ 1 [.slice d0 k0 f0,.slice d1 k1 f1,.bool false,.slice d3 k3 f3] (ex (dE (dB id (N:Int) (k:Int) (j:Int))) k k,[],false,[]) fpx (by rfl) ?_ ?_ ?_ ?_ L1.out L2.out ?_
   . exact (HM.out.below HBC.out).alloc _
   . exact MX.out.alloc _
   . intro b hb hb'
     have h1:=HM.out.lt b hb;have h2:=RX.out b hb';omega
   . exact bN _ _ _
   . intro u hu
     simp at hu
     rcases hu with hu|hu|hu|hu<;>(rw [hu];rfl)
   intro g cap wA fpA m1 m2 m3;rw [HL.out] at m1 ⊢;rw [←HTK.out] at m1;have ya:=(XOC.out.alloc (.cells #[.slice d0 k0 f0,.slice d1 k1 f1,.bool false,.slice d3 k3 f3] 55)).turned m3 (fun hm=>by have:=HFP.out _ hm;omega);have zB:(wc.alloc (.cells #[.slice d0 k0 f0,.slice d1 k1 f1,.bool false,.slice d3 k3 f3] 55)).heap.size=wc.heap.size+1:=by simp
   have ga:bK wA w.heap.size 25 (N:Int) (k:Int):=(m3.block _ (by omega) (fun hm=>by have:=HFP.out _ hm;omega)).trans (GBC.out.below (af _ _) GBC.out.lt);have hS5:wA.cell? ⟨BO,3,none⟩=some (v0)/\wA.cell? ⟨w.heap.size,0,none⟩=some (.int .i64 (N:Int))/\wA.cell? ⟨w.heap.size,1,none⟩=some (.int .i64 (k:Int)):=mk.out wA ya ga;have rr0:=hS5.1;have fz:=ya.frozen 3;have YA:=aa ya;have M1:=aa m1;have M2:=aa m2;have M3:=aa m3;clear ya ga m1 m2 m3 zB;refine hK.out _ _ (fun _=>hS5) ?_
   clear hK K;simp only [Act.put,List.setIfInBounds_toArray,List.set_cons_zero,List.set_cons_succ]
   refine ao.take (i:=8) (v:=?_) rfl (by kernel_rfl) (by kernel_rfl) (by kernel_rfl) (by kernel_rfl) (fun _ _ _ h=>h) (Or.inl ⟨by rfl,?_⟩) hS5 ?_
   rotate_left 1
   . (intro w hSw;(try dsimp only at hSw);go_split_ands;go_simp;first|done|with_reducible rfl)
   simp only [Act.put,List.setIfInBounds_toArray,List.set_cons_zero,List.set_cons_succ]
   refine ao.one (i:=9) (by kernel_rfl) rfl (fun K hK=>?_)
   go_simp
   refine hK.out _ _ (fun h=>absurd rfl h) ?_
   clear hK K;refine ao.done (by kernel_rfl) ?_ _
   have HFA:=aa (ev (N:=LB) zLw HBC.out HFP.out RX.out M2.out);have FRA:=aa (Fr.round FRR.out zLw HBC.out _ M3.out HFP.out 3 (.slice (some ⟨g,0,none⟩) (j+1) cap));have MA:=aa (M1.out.setCell (g:=BO) (j:=3) (fun hm=>by have:=HFA.out _ hm;omega) (.slice (some ⟨g,0,none⟩) (j+1) cap));have YA':=aa (YA.out.set 3 (.slice (some ⟨g,0,none⟩) (j+1) cap));clear hS hS3 hS4 hS5 rr0 YA M1 M2 M3 XOC GBC MX RX HBC HFP HM FRR XO GBR mk;go_wp2
   go_roundw
   case rel=>exact ⟨j+1,_,fpA,by omega,by go_num,FRA.out,YA'.out,MA.out,HFA.out⟩
   case measure=>simp [intOf];omega
 have ej:j=N:=by omega
 subst ej;have hlt:=hm.lt;obtain ⟨eM,gM,hvM⟩:=aC hm.rd;rw [ek] at hvM;subst hvM;have KM:=hm.own (lo:=LB) (hi:=wr.heap.size) (fun b hb=>⟨hfp b hb,hlt b hb⟩);have xr:=fr.box XR2.out (by omega) (by omega);have hbt:=dj (w.heap.size+1) [(0,.int .i64 id),(1,.int .i64 (j:Int)),(2,.int .i64 (k:Int)),(3,.slice eM j gM),(4,.int .i64 (-1)),(5,.int .i64 0),(6,.int .i64 0),(7,.int .i64 0),(8,.int .i64 0),(9,.slice none 0 0),(10,.int .i64 (-1)),(11,.bool false),(12,.bool false)] wr;have hsz:=hbt.size;have FO:=aa ((KM.but hbt (.inr (by omega))).widen (lo':=w.heap.size) (by omega) hsz);have FB:=aa (Below.andBut hb hbt (by omega));simp only [fa] at FO FB
 obtain ⟨p0,p1,p2,p3,p4,p5,p6,p7,p8,p9,p10,p11,p12⟩:=xr.cells13;have fz:=xr.frozen;obtain ⟨r0,r1,r2,r3,r4,r5,r6,r7,r8,r9,r10,r11,r12⟩:=xo.cells13;clear fr xo hb hm hfp hlt xr KM hbt hsz gb hj hs;go_wp2
 refine bodyPost_ret (v:=.agg #[.int .i64 id,.int .i64 (j:Int),.int .i64 (k:Int),.slice eM j gM,.int .i64 (-1),.int .i64 0,.int .i64 0,.int .i64 0,.int .i64 0,.slice none 0 0,.int .i64 (-1),.bool false,.bool false]) (by simp [results,Tryz.results6,go_sem,p0,p1,p2,p3,p4,p5,p6,p7,p8,p9,p10,p11,p12]) rfl ?_
 have hnl:(eo id (j:Int) (k:Int) (j:Int).toNat).length=j:=by rw [ek];simp
 exact ⟨eM,gM,by rw [HY.out.1,HY.out.2,hnl],by rw [HY.out.2,hnl,Int.toNat_natCast];exact FO.out,FB.out⟩
theorem lZ (w:World) (E F G:TypeId) (x:aq) (am ad:Option Addr) (nm cm nd cd:Nat) (ms:List ai) (ds:List (Int×List Int))  (h0:(bI E F).Rd w [.slice am nm cm] ms) (h1:(aW G).Rd w [.slice ad nd cd] ds) (hw:bh ms ds<=2097152):
 Calls Tryz.prog 17 #[.agg #[.int .i64 x.id,.int .i64 x.n,.int .i64 x.s,.slice am nm cm,.int .i64 x.lost,.int .i64 x.xW,.int .i64 x.seq,.int .i64 x.tail,.int .i64 x.gen,.slice ad nd cd,.int .i64 x.xY,.bool x.down,.bool x.xX]] w fun e w'=>∃a' l' c',e=.returned (.slice a' l' c')/\aD.Own w' w.heap.size w'.heap.size [.slice a' l' c'] (mu x ms ds)/\Below w.heap.size w w':=by
 have hwm:aQ ms<=2097152:=by unfold bh at hw;omega
 obtain ⟨hl,hcp,hcm⟩:=ag h0;have hA:=af w (.cells #[.int .i64 x.id,.int .i64 x.n,.int .i64 x.s,.slice am nm cm,.int .i64 x.lost,.int .i64 x.xW,.int .i64 x.seq,.int .i64 x.tail,.int .i64 x.gen,.slice ad nd cd,.int .i64 x.xY,.bool x.down,.bool x.xX] 31);have X:=Box.new w 31 #[.int .i64 x.id,.int .i64 x.n,.int .i64 x.s,.slice am nm cm,.int .i64 x.lost,.int .i64 x.xW,.int .i64 x.seq,.int .i64 x.tail,.int .i64 x.gen,.slice ad nd cd,.int .i64 x.xY,.bool x.down,.bool x.xX];have zA:=X.lt;obtain ⟨k0,k1,k2,k3,k4,k5,k6,k7,k8,k9,k10,k11,k12⟩:=X.cells13;have r0:=h0.below hA;have r1:=h1.below hA;obtain ⟨i0,hi,hz0,hz1,hz2⟩:=info_parts Tryz.info3;have X':=X.alloc (.cells #[] 3);clear k0 k1 k2 k3 k4 k5 k6 k7 k8 k9 k10 k11 k12;obtain ⟨k0,k1,k2,k3,k4,k5,k6,k7,k8,k9,k10,k11,k12⟩:=X'.cells13;go_enter Tryz.func17,Tryz.ntmps17
 go_wp2_with fail
 have hsz:(w.alloc (.cells #[.int .i64 x.id,.int .i64 x.n,.int .i64 x.s,.slice am nm cm,.int .i64 x.lost,.int .i64 x.xW,.int .i64 x.seq,.int .i64 x.tail,.int .i64 x.gen,.slice ad nd cd,.int .i64 x.xY,.bool x.down,.bool x.xX] 31)).heap.size=w.heap.size+1:=by simp
 have ZW:=aa hsz;clear hsz X';clear k0 k1 k2 k3 k4 k5 k6 k7 k8 k9 k10 k11 k12;generalize w.alloc (.cells #[.int .i64 x.id,.int .i64 x.n,.int .i64 x.s,.slice am nm cm,.int .i64 x.lost,.int .i64 x.xW,.int .i64 x.seq,.int .i64 x.tail,.int .i64 x.gen,.slice ad nd cd,.int .i64 x.xY,.bool x.down,.bool x.xX] 31)=W at hA X zA r0 r1 ZW ⊢;have hO:bk .i64 3 (W.alloc (.cells #[] 3)) W.heap.size (.slice (some ⟨W.heap.size,0,none⟩) 0 0) []:=bk.lit .i64 3 W [] 0 #[] rfl rfl (by unfold maxLen;omega);have hBW:Below W.heap.size W (W.alloc (.cells #[] 3)):=(Below.refl _ _).alloc (Nat.le_refl _) _;refine (fk _ x.n x.s).mono ?_
 rintro e w2 ⟨rfl,b2⟩;have B2:=hBW.trans (b2.mono hBW.size);have o2:=hO.below b2 (Nat.le_refl _);clear b2 hBW hO;obtain ⟨n,hn⟩:∃n:Nat,aN x.n x.s=(n:Int):=⟨(aN x.n x.s).toNat,by have:=mz x.n x.s;omega⟩;have hn32:n<=32:=by have:=mz x.n x.s;omega
 have HNT:Hid ((aN x.n x.s).toNat=n):=by unfold Hid;omega
 rw [hn];clear hn;go_wp2
 rw [ZW.out] at o2;go_loopw [3,11] (fun v i wr=>∃j:Nat,j<=n/\i=.int .i64 j/\bk .i64 3 wr W.heap.size v (nL x ms ds j)/\mt x ms ds j=true/\Below W.heap.size W wr) (fun _ i _=>n-(intOf i).toNat)
 case atStart=>exact ⟨0,Nat.zero_le _,rfl,by first|exact o2|(rw [ZW.out];exact o2),rfl,B2⟩
 clear o2 B2;obtain ⟨j,hj,rfl,ho,hk,hb⟩:=hrel;have zB:=hA.size;have Xr:=X.below hb zA;have zs:=hb.size;by_cases hlt:j<n
 . obtain ⟨k0,k1,k2,k3,k4,k5,k6,k7,k8,k9,k10,k11,k12⟩:=Xr.cells13
   have hlt':(j:Int)<(n:Int):=by omega
   have HK:=aa hk;clear hk;go_wp2_with fail
   refine (lY _ E F G x _ _ _ _ _ _ ms ds (j:Int) (r0.below hb) (r1.below hb) hw).mono ?_
   rintro e w3 ⟨rfl,b3⟩;have B3:=hb.trans (b3.mono hb.size);have o3:=ho.below b3 (Nat.le_refl _);have z3:=B3.size;clear k0 k1 k2 k3 k4 k5 k6 k7 k8 k9 k10 k11 k12 Xr b3 hb ho;have hle:=vM x ms ds j;by_cases ht:iV x ms ds (j:Int)=0
   . have HOK:=aa (td HK.out ht)
     have HS:=aa (uI x ms ds j);rw [ht];clear ht;generalize qF x ms ds (j:Int)=y at HS ⊢;generalize nL x ms ds j=zz at HS hle o3 ⊢;go_wp2_with (at_builtin;refine dt .i64 (by rfl) _ _ 42 (by rfl) W.heap.size 3 i0 _ 8 Tryz.underlying42 hi hz0 hz1 hz2 rfl _ zz (by rfl) (o3.alloc _) ⟨w3.heap.size,0,none⟩ 1 1 [y] (by rfl) rfl (aJ.new _ _ _ _ _ rfl) ?h1 ?h2 ?h3 ?_)
     case h1=>unfold maxLen;omega
     case h2=>omega
     case h3=>simp;omega
     intro v' w5 o5 b5;have B5:=aa ((B3.alloc B3.size (.cells #[.int .i64 y] 3)).trans b5);rw [←HS.out] at o5;have O5:=aa o5;clear b5 o5 o3 B3;go_wp2
     go_roundw
     case rel=>exact ⟨j+1,by omega,by go_num,O5.out,HOK.out,B5.out⟩
     case measure=>simp [intOf];omega
   have FB3:=Below.andThen hA B3;have HC:Hid (¬iV x ms ds (j:Int)=0):=ht;have ht':(iV x ms ds (j:Int) !=0)=true:=by simpa using ht
   have HF:Hid (mu x ms ds=[]):=(xB HC.out (by have:=HNT.out;omega));have FO:=aa ((aS (bk.lit .i64 3 w3 [] 0 #[] rfl rfl (by unfold maxLen;omega))).widen (lo':=w.heap.size) (FB3).size (Nat.le_refl _));have FB:=aa ((FB3).alloc (FB3).size (.cells #[] 3));go_wp2
   refine bodyPost_ret (v:=.slice (some ⟨w3.heap.size,0,none⟩) 0 0) (by simp [results,Tryz.results17,go_sem]) rfl ?_
   exact ⟨_,_,_,rfl,by rw [HF.out];exact FO.out,FB.out⟩
 skip
 have ej:j=n:=by omega
 subst ej;have HV:Hid (mu x ms ds=nL x ms ds j):=by unfold Hid;rw [con_of (by rw [HNT.out];exact hk),HNT.out]
 have FB:=aa (Below.andThen hA hb);obtain ⟨av,cv,hv,_⟩:=ho.shape;have FO:=aa ((aS ho).widen (lo':=w.heap.size) (by omega) (Nat.le_refl _));subst hv;clear hb ho hk;go_wp2
 refine bodyPost_ret (v:=.slice av (nL x ms ds j).length cv) (by simp [results,Tryz.results17,go_sem]) rfl ?_
 exact ⟨_,_,_,rfl,by rw [HV.out];exact FO.out,FB.out⟩
end Go.Proofs.YtgjomldcnjjpaaaGreat
