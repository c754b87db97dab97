/-
 The walk of the specification's FlushMem: what is written is in its sector, the cache empty, in memory of its own; what is not MemOk, or failed, as it was. Condition: the disk weighs at most 2097152.
-/
import Derived.Test.YtgjomldcnjjpaaaGreatRowArrsSq19

set_option maxRecDepth 100000
set_option maxHeartbeats 8000000
set_option linter.unusedSimpArgs false

namespace Go.Proofs.YtgjomldcnjjpaaaGreat
open Go.RowKit

theorem mE {w:World} {vs:List Value} {x:Int×List Int} {fp:List Nat} (h:tWr.Mine w vs x fp):∃a cap,vs=[.int .i64 x.1,.slice a x.2.length cap]/\aD.Mine w [.slice a x.2.length cap] x.2 fp:=by
 have hl:vs.length=2:=tWr.rdLen (tWr.owRd h.1);match vs,hl,h with
 | [u0,u1],_,h=>
  obtain ⟨f1,f2,hf,m1,m2,_⟩:=eK (t:=eT) (u:=aD) (vs:=[u0]) (us:=[u1]) rfl h;obtain ⟨e1,e2⟩:=m1.1;subst e2;obtain ⟨a,cap,rfl⟩:=aC m2.rd;refine ⟨a,cap,by simpa using e1,?_⟩
  rw [hf];exact m2
theorem aA.adrew {fp:List Nat} {w w':World} (h:aA fp w w'):aA fp w w'.drew:=⟨h.os,h.tape,h.output,h.size,h.block⟩
theorem Ty.Mine.adrew {t:Ty} {w:World} {vs:List Value} {d:t.D} {fp:List Nat} (h:t.Mine w vs d fp):t.Mine w.drew vs d fp:=h.kept (aA.adrew (aA.refl [] w)) (by simp)
theorem sb {w:World} {E:TypeId} {lo hi n cap:Nat} {b:Option Addr} {cs:List (Int×List Int)} (h:(aW E).Own w lo hi [.slice b n cap] cs):
 ∃(gC:Nat) (F:Nat->List Nat),(n=0∨(b=some ⟨gC,0,none⟩/\lo<=gC/\gC<hi))/\(∀i x,cs[i]?=some x->∃a c,aD.Mine w [.slice a x.2.length c] x.2 (F i)/\(∀b∈F i,lo<=b/\b<hi)/\w.cell? ⟨gC,i*2,none⟩=some (.int .i64 x.1)/\w.cell? ⟨gC,i*2+1,none⟩=some (.slice a x.2.length c))/\∀i j,i<j->j<cs.length->∀b∈F i,b∉F j:=by
 have hl:=(ag h.rd).1;rcases h.rowShape with h0|⟨g,rfl⟩
 . refine ⟨0,fun _=>[],.inl h0,fun i x hx=>?_,by simp⟩
   have:=(List.getElem?_eq_some_iff.1 hx).1;omega
 obtain ⟨fp,m,r⟩:=h.mine;obtain ⟨hg,F,h1,h2⟩:=fF m;refine ⟨g,F,.inr ⟨rfl,r g hg⟩,fun i x hx=>?_,h2⟩
 obtain ⟨vs,m1,_,m3,m4⟩:=h1 i x hx;obtain ⟨a,c,rfl,m5⟩:=mE m1;exact ⟨a,c,m5,fun b hb=>r b (m3 b hb),m4 0 (by decide),m4 1 (by decide)⟩
theorem iG (w:World) (E:TypeId) (a0 a1 a3:Option Addr) (n0 c0 n1 c1 n3 c3:Nat) (ss:List (List Int)) (cs:List (Int×List Int)) (f:Bool) (bs:List Int) (h0:aU.Rd w [.slice a0 n0 c0] ss) (h1:(aW E).Rd w [.slice a1 n1 c1] cs) (h3:aD.Rd w [.slice a3 n3 c3] bs) (hw:aM (ss,cs,f,bs)<=2097152):
 Calls Tryz.prog 119 #[.agg #[.slice a0 n0 c0,.slice a1 n1 c1,.bool f,.slice a3 n3 c3]] w fun e w'=>∃v0 v1 v3,e=.returned (.agg #[v0,v1,.bool f,v3])/\(cu 119).Own w' w.heap.size w'.heap.size [v0,v1,.bool f,v3] (gW ss cs f bs,ip ss cs f bs,f,bs)/\Below w.heap.size w w':=by
 obtain ⟨hl0,_,hm0⟩:=ag h0;obtain ⟨hl1,_,hm1⟩:=ag h1;obtain ⟨hl3,_,hm3⟩:=ag h3;have hwc:aX cs<=2097152:=by unfold aM at hw;simp only at hw;omega
 by_cases hM:bF ss cs bs=true
 . have hn20:n0<=20:=by have:=iZ hM;omega
   have hks:=jI hM;by_cases hf:f=true
   . subst hf
     have e1:gW ss cs true bs=ss:=by unfold gW;simp
     have e2:ip ss cs true bs=cs:=by unfold ip;simp
     rw [e1,e2];clear e1 e2;have hA:Below w.heap.size w ((w.alloc (.cells #[.slice a0 n0 c0,.slice a1 n1 c1,.bool true,.slice a3 n3 c3] 55)).alloc (.cells #[.slice none 0 0,.slice none 0 0,.bool false,.slice none 0 0] 55)):=((Below.refl _ _).alloc (Nat.le_refl _) _).alloc (by simp) _;have xm:Box ((w.alloc (.cells #[.slice a0 n0 c0,.slice a1 n1 c1,.bool true,.slice a3 n3 c3] 55)).alloc (.cells #[.slice none 0 0,.slice none 0 0,.bool false,.slice none 0 0] 55)) w.heap.size 55 #[.slice a0 n0 c0,.slice a1 n1 c1,.bool true,.slice a3 n3 c3]:=(Box.new w _ _).alloc _;have xr:Box ((w.alloc (.cells #[.slice a0 n0 c0,.slice a1 n1 c1,.bool true,.slice a3 n3 c3] 55)).alloc (.cells #[.slice none 0 0,.slice none 0 0,.bool false,.slice none 0 0] 55)) (w.heap.size+1) 55 #[.slice none 0 0,.slice none 0 0,.bool false,.slice none 0 0]:=by
      have:=Box.new (w.alloc (.cells #[.slice a0 n0 c0,.slice a1 n1 c1,.bool true,.slice a3 n3 c3] 55)) 55 #[.slice none 0 0,.slice none 0 0,.bool false,.slice none 0 0];rw [show (w.alloc (.cells #[.slice a0 n0 c0,.slice a1 n1 c1,.bool true,.slice a3 n3 c3] 55)).heap.size=w.heap.size+1 by simp] at this;exact this
     go_enter Tryz.func119,Tryz.ntmps119
     go_wp2_with fail
     generalize hW:(w.alloc (.cells #[.slice a0 n0 c0,.slice a1 n1 c1,.bool true,.slice a3 n3 c3] 55)).alloc (.cells #[.slice none 0 0,.slice none 0 0,.bool false,.slice none 0 0] 55)=W at hA xm xr ⊢;clear hW;have zr:=xr.lt;obtain ⟨q0,q1,q2,q3⟩:=xm.cells4;have XM:=aa xm;have XR:=aa xr;clear xm xr;refine (fE _ E _ _ _ _ _ _ _ _ _ ss cs true bs (h0.below hA) (h1.below hA) (h3.below hA) hw).mono ?_
     intro e w1 hc;obtain ⟨b0,b1,b3,e0,e1,e3,m1,m2,rfl,o3,o0,o1,r1,r2,r3,bb⟩:=de hl0 hl1 hl3 hc;clear hc;have z1:=bb.size;have sW:w.heap.size+2<=W.heap.size:=by omega
     have ba:Below w1.heap.size w1 (w1.alloc (.cells #[.slice b0 n0 e0,.slice b1 n1 e1,.bool true,.slice b3 n3 e3] 55)):=(Below.refl _ _).alloc (Nat.le_refl _) _;have yo:=Box.new w1 55 #[.slice b0 n0 e0,.slice b1 n1 e1,.bool true,.slice b3 n3 e3];have zo:=yo.lt;have YO:=aa yo;have YR:=aa ((XR.out.below bb zr).below ba (by omega));have YM:=aa ((XM.out.below bb (by omega)).below ba (by omega));have K0:=aa (o0.below ba);have K1:=aa (o1.below ba);have K3:=aa (o3.below ba);have KB:=aa (hA.trans ((bb.mono (by omega:w.heap.size<=W.heap.size)).trans (ba.mono (by omega))));clear yo o0 o1 o3 XM XR bb ba hA q0 q1 q2 q3;obtain ⟨q0,q1,q2,q3⟩:=YM.out.cells4;go_wp2_with fail
     generalize w1.alloc (.cells #[.slice b0 n0 e0,.slice b1 n1 e1,.bool true,.slice b3 n3 e3] 55)=w2 at YO YR YM K0 K1 K3 KB zo q0 q1 q2 q3 ⊢;refine (bw _ E _ _ _ _ _ _ _ _ _ ss cs true bs (h0.below KB.out) (h1.below KB.out) (h3.below KB.out) hw).mono ?_
     rintro e w3 ⟨rfl,b4⟩;have z3:=b4.size;have XO:=aa (YO.out.below b4 (by omega));have XR:=aa (YR.out.below b4 (by omega));have XM:=aa (YM.out.below b4 (by omega));have L0:=aa (K0.out.below b4);have L1:=aa (K1.out.below b4);have L3:=aa (K3.out.below b4);have LB:=aa (KB.out.trans (b4.mono (by have:=KB.out.size;omega)));clear YO YR YM K0 K1 K3 KB b4 q0 q1 q2 q3;obtain ⟨q0,q1,q2,q3⟩:=XM.out.cells4;obtain ⟨x0,x1,x2,x3⟩:=XO.out.cells4;obtain ⟨p0,p1,p2,p3⟩:=XR.out.cells4;have fz:=XR.out.frozen;have hbt:But (w.heap.size+1) (w.heap.size+2) w3 ((((w3.setCell ⟨w.heap.size+1,0,none⟩ (.slice b0 n0 e0)).setCell ⟨w.heap.size+1,1,none⟩ (.slice b1 n1 e1)).setCell ⟨w.heap.size+1,2,none⟩ (.bool true)).setCell ⟨w.heap.size+1,3,none⟩ (.slice b3 n3 e3)):=
      (((But.setCell (by omega) (by omega) _).trans (But.setCell (by omega) (by omega) _)).trans (But.setCell (by omega) (by omega) _)).trans (But.setCell (by omega) (by omega) _)
     have z9:=hbt.size;have FIN:Hid ((cu 119).Own ((((w3.setCell ⟨w.heap.size+1,0,none⟩ (.slice b0 n0 e0)).setCell ⟨w.heap.size+1,1,none⟩ (.slice b1 n1 e1)).setCell ⟨w.heap.size+1,2,none⟩ (.bool true)).setCell ⟨w.heap.size+1,3,none⟩ (.slice b3 n3 e3)) w.heap.size ((((w3.setCell ⟨w.heap.size+1,0,none⟩ (.slice b0 n0 e0)).setCell ⟨w.heap.size+1,1,none⟩ (.slice b1 n1 e1)).setCell ⟨w.heap.size+1,2,none⟩ (.bool true)).setCell ⟨w.heap.size+1,3,none⟩ (.slice b3 n3 e3)).heap.size [.slice b0 n0 e0,.slice b1 n1 e1,.bool true,.slice b3 n3 e3] (ss,cs,true,bs)):=cH (L0.out.but hbt (by omega)) (L1.out.but hbt (by omega)) (L3.out.but hbt (by omega)) (by omega) (by omega) (by omega) (by omega) (by omega) (by omega);have FB:=aa (Below.andBut LB.out hbt (by omega));clear hbt;go_wp2
     refine bodyPost_ret (v:=.agg #[.slice b0 n0 e0,.slice b1 n1 e1,.bool true,.slice b3 n3 e3]) (by simp [results,Tryz.results119,go_sem,p0,p1,p2,p3]) rfl ?_
     exact ⟨_,_,_,rfl,FIN.out,FB.out⟩
   have hf:f=false:=by simpa using hf
   subst hf;have e1:gW ss cs false bs=dJ ss cs:=by unfold gW;simp [hM]
   have e2:ip ss cs false bs=[]:=by unfold ip;simp [hM]
   rw [e1,e2];clear e1 e2;have hA:Below w.heap.size w ((w.alloc (.cells #[.slice a0 n0 c0,.slice a1 n1 c1,.bool false,.slice a3 n3 c3] 55)).alloc (.cells #[.slice none 0 0,.slice none 0 0,.bool false,.slice none 0 0] 55)):=((Below.refl _ _).alloc (Nat.le_refl _) _).alloc (by simp) _;have xm:Box ((w.alloc (.cells #[.slice a0 n0 c0,.slice a1 n1 c1,.bool false,.slice a3 n3 c3] 55)).alloc (.cells #[.slice none 0 0,.slice none 0 0,.bool false,.slice none 0 0] 55)) w.heap.size 55 #[.slice a0 n0 c0,.slice a1 n1 c1,.bool false,.slice a3 n3 c3]:=(Box.new w _ _).alloc _;have xr:Box ((w.alloc (.cells #[.slice a0 n0 c0,.slice a1 n1 c1,.bool false,.slice a3 n3 c3] 55)).alloc (.cells #[.slice none 0 0,.slice none 0 0,.bool false,.slice none 0 0] 55)) (w.heap.size+1) 55 #[.slice none 0 0,.slice none 0 0,.bool false,.slice none 0 0]:=by
    have:=Box.new (w.alloc (.cells #[.slice a0 n0 c0,.slice a1 n1 c1,.bool false,.slice a3 n3 c3] 55)) 55 #[.slice none 0 0,.slice none 0 0,.bool false,.slice none 0 0];rw [show (w.alloc (.cells #[.slice a0 n0 c0,.slice a1 n1 c1,.bool false,.slice a3 n3 c3] 55)).heap.size=w.heap.size+1 by simp] at this;exact this
   go_enter Tryz.func119,Tryz.ntmps119
   go_wp2_with fail
   generalize hW:(w.alloc (.cells #[.slice a0 n0 c0,.slice a1 n1 c1,.bool false,.slice a3 n3 c3] 55)).alloc (.cells #[.slice none 0 0,.slice none 0 0,.bool false,.slice none 0 0] 55)=W at hA xm xr ⊢;clear hW;have zr:=xr.lt;obtain ⟨q0,q1,q2,q3⟩:=xm.cells4;have XM:=aa xm;have XR:=aa xr;clear xm xr;refine (fE _ E _ _ _ _ _ _ _ _ _ ss cs false bs (h0.below hA) (h1.below hA) (h3.below hA) hw).mono ?_
   intro e w1 hc;obtain ⟨b0,b1,b3,e0,e1,e3,m1,m2,rfl,o3,o0,o1,r1,r2,r3,bb⟩:=de hl0 hl1 hl3 hc;clear hc;have z1:=bb.size;have sW:w.heap.size+2<=W.heap.size:=by omega
   have ba:Below w1.heap.size w1 (w1.alloc (.cells #[.slice b0 n0 e0,.slice b1 n1 e1,.bool false,.slice b3 n3 e3] 55)):=(Below.refl _ _).alloc (Nat.le_refl _) _;have yo:=Box.new w1 55 #[.slice b0 n0 e0,.slice b1 n1 e1,.bool false,.slice b3 n3 e3];have zo:=yo.lt;have YO:=aa yo;have YR:=aa ((XR.out.below bb zr).below ba (by omega));have YM:=aa ((XM.out.below bb (by omega)).below ba (by omega));have K0:=aa (o0.below ba);have K1:=aa (o1.below ba);have K3:=aa (o3.below ba);have KB:=aa (hA.trans ((bb.mono (by omega:w.heap.size<=W.heap.size)).trans (ba.mono (by omega))));clear yo o0 o1 o3 XM XR bb ba hA q0 q1 q2 q3;obtain ⟨q0,q1,q2,q3⟩:=YM.out.cells4;go_wp2_with fail
   generalize w1.alloc (.cells #[.slice b0 n0 e0,.slice b1 n1 e1,.bool false,.slice b3 n3 e3] 55)=w2 at YO YR YM K0 K1 K3 KB zo q0 q1 q2 q3 ⊢;refine (bw _ E _ _ _ _ _ _ _ _ _ ss cs false bs (h0.below KB.out) (h1.below KB.out) (h3.below KB.out) hw).mono ?_
   rintro e w3 ⟨rfl,b4⟩;have z3:=b4.size;have XO:=aa (YO.out.below b4 (by omega));have XR:=aa (YR.out.below b4 (by omega));have XM:=aa (YM.out.below b4 (by omega));have L0:=aa (K0.out.below b4);have L1:=aa (K1.out.below b4);have L3:=aa (K3.out.below b4);have LB:=aa (KB.out.trans (b4.mono (by have:=KB.out.size;omega)));clear YO YR YM K0 K1 K3 KB b4 q0 q1 q2 q3;obtain ⟨q0,q1,q2,q3⟩:=XM.out.cells4;obtain ⟨x0,x1,x2,x3⟩:=XO.out.cells4;have hn1':0<n0:=by have:=vr hM;omega
   obtain ⟨gS,hb0⟩:∃gS,b0=some ⟨gS,0,none⟩:=by
    rcases L0.out.rowShape with h|⟨g,h⟩
    . omega
    exact ⟨g,h⟩
   subst hb0;obtain ⟨fpS0,mS0,rS0⟩:=L0.out.mine;have hgS:=rS0 gS (fF mS0).1;obtain ⟨gC,FC,hC0,hC1,hC2⟩:=sb L1.out;have MS0:=aa mS0;have RS0:=aa rS0;have HC1:=aa hC1;have HC2:=aa hC2;clear mS0 rS0 hC1 hC2;go_wp2
   clear x0 x1 x2 x3;go_loopw [4] (fun i wr=>∃(j:Nat) (fpS:List Nat),j<=n1/\i=.int .i64 j/\aA [gS] w3 wr/\aU.Mine wr [.slice (some ⟨gS,0,none⟩) n0 e0] (dJ ss (cs.take j)) fpS/\(∀b∈fpS,(m1<=b/\b<m2)∨∃i,i<j/\b∈FC i)) (fun i _=>n1-(intOf i).toNat)
   case atStart=>exact ⟨0,fpS0,Nat.zero_le _,rfl,aA.refl _ _,by rw [List.take_zero,sN];exact MS0.out,fun b hb=>.inl (RS0.out b hb)⟩
   obtain ⟨j,fpS,hj,rfl,tn,hS,hfp⟩:=hrel;have hs:=tn.size;have xo:=XO.out.turned tn (by simp;omega);obtain ⟨y0,y1,y2,y3⟩:=xo.cells4;by_cases hjn:j<n1
   . have k1:(0:Int)<=(j:Int):=by omega
     have k2:(j:Int)<(n1:Int):=by omega
     rcases hC0 with hC0|⟨rfl,hC3,hC4⟩
     . omega
     have hdj:cs[j]?=some (cs[j]'(by omega)):=List.getElem?_eq_getElem (by omega);have htk:cs.take (j+1)=cs.take j++[cs[j]'(by omega)]:=List.take_succ_eq_append_getElem (by omega);have hmem:cs[j]'(by omega)∈cs:=List.getElem_mem _;generalize cs[j]'(by omega)=x at hdj htk hmem;obtain ⟨q,hq,hql⟩:=oW hM x hmem;obtain ⟨av,cv,mx,rx,cv0,cv1⟩:=HC1.out j x hdj;obtain ⟨x0,x1⟩:=x;simp only at hq mx rx cv0 cv1
     subst hq;have ncs:gC≠gS:=by omega
     have d0:=(dq (tn.block gC (by omega) (by simp;omega)) (j*2)).trans cv0;have d1:=(dq (tn.block gC (by omega) (by simp;omega)) (j*2+1)).trans cv1;have mr:=mx.kept tn (fun b hb hb'=>by have:=rx b hb;simp at hb';omega);obtain ⟨⟨old,cOld⟩,fz,hgm,fpA,mA,rA⟩:=im (j:=q) rfl hS (by omega) mr (fun b hb hb'=>by
      have h1:=rx b hb;rcases hfp b hb' with h2|⟨i,h2,h3⟩
      . omega
      exact HC2.out i j h2 (by omega) b h3 hb)
     have hfA:∀b∈fpA,(m1<=b/\b<m2)∨∃i,i<j+1/\b∈FC i:=fun b hb=>by
      rcases rA b hb with h|h
      . rcases hfp b h with h2|⟨i,h2,h3⟩
        . exact .inl h2
        exact .inr ⟨i,by omega,h3⟩
      exact .inr ⟨j,by omega,h⟩
     have k3:(0:Int)<=(q:Int):=by omega
     have k4:(q:Int)<(n0:Int):=by omega
     have HTK:=aa htk;have HFA:=aa hfA;have MA:=aa mA;have TA:=aa (tn.trans (aA.setCell (w:=wr) (g:=gS) (j:=q) (.slice av x1.length cv) (List.mem_cons_self:gS∈[gS])));have XOR:=aa xo;have nO:Hid (w1.heap.size≠gS):=by unfold Hid;omega
     have nC:Hid (gC≠gS):=ncs;have hT:Hid (wr.cell? ⟨gC,j*2,none⟩=some (.int .i64 (q:Int))/\wr.cell? ⟨gC,j*2+1,none⟩=some (.slice av x1.length cv)):=⟨d0,d1⟩;clear hdj htk hmem mx rx cv0 cv1 mr hfA mA rA tn hS hfp xo hgm ncs;go_wp2_with fail
     go_region_held3 (fun w'=>w'.cell? ⟨w1.heap.size,0,none⟩=some (.slice (some ⟨gS,0,none⟩) n0 e0)/\w'.cell? ⟨w1.heap.size,1,none⟩=some (.slice (some ⟨gC,0,none⟩) n1 e1)/\w'.cell? ⟨gC,j*2,none⟩=some (.int .i64 (q:Int))/\w'.cell? ⟨gC,j*2+1,none⟩=some (.slice av x1.length cv))
      (first|(exact ⟨y0,y1,d0,d1⟩)|(exact ⟨(XOR.out.other nO.out q (.slice av x1.length cv)).cell 0,(XOR.out.other nO.out q (.slice av x1.length cv)).cell 1,(dq (Below.heap_setCell _ _ _ _ nC.out) _).trans d0,(dq (Below.heap_setCell _ _ _ _ nC.out) _).trans d1⟩)|go_keep)
      (fail)
     clear d0 d1 y0 y1 y2 y3 cOld fz XOR nO nC hT;go_wp2
     go_roundw
     case rel=>exact ⟨j+1,fpA,by omega,by go_num,aA.adrew TA.out,by rw [HTK.out,ro (by omega)];exact Ty.Mine.adrew MA.out,HFA.out⟩
     case measure=>simp [intOf];omega
   have e:n1=j:=by omega
   subst e;rw [List.take_of_length_le (by omega)] at hS;have yo:=xo.alloc (.cells #[] 119);have ys:=yo.set 1 (.slice (some ⟨wr.heap.size,0,none⟩) 0 0);have yt:=((XR.out.turned tn (by simp;omega)).alloc (.cells #[] 119)).other (g:=w1.heap.size) (by omega) 1 (.slice (some ⟨wr.heap.size,0,none⟩) 0 0);obtain ⟨s0,s1,s2,s3⟩:=yo.cells4;have fo:=yo.frozen 1;obtain ⟨t0,t1,t2,t3⟩:=Box.cells4 (v0:=.slice (some ⟨gS,0,none⟩) n0 e0) (v1:=(.slice (some ⟨wr.heap.size,0,none⟩) 0 0)) (v2:=.bool false) (v3:=.slice b3 n3 e3) ys;obtain ⟨p0,p1,p2,p3⟩:=yt.cells4;have fz:=yt.frozen;have zl:(wr.alloc (.cells #[] 119)).heap.size=wr.heap.size+1:=by simp
   have ZL:=aa zl;have bo:=But.setCell (lo:=w1.heap.size) (hi:=w1.heap.size+1) (g:=w1.heap.size) (j:=1) (w:=(wr.alloc (.cells #[] 119))) (Nat.le_refl _) (Nat.lt_succ_self _) (.slice (some ⟨wr.heap.size,0,none⟩) 0 0);have bl:Below wr.heap.size wr (wr.alloc (.cells #[] 119)):=(Below.refl _ _).alloc (Nat.le_refl _) _;have kl:=((ig (t:=tWr) (E:=119) wr).own (lo:=wr.heap.size) (hi:=wr.heap.size+1) (fun b hb=>by simp at hb;omega)).but bo (.inr (by omega));have k0:=((hS.own (lo:=m1) (hi:=w1.heap.size) (fun b hb=>by
    rcases hfp b hb with h|⟨i,h2,h3⟩
    . omega
    by_cases hin:i<n1
    . obtain ⟨_,_,_,r,_⟩:=HC1.out i _ (List.getElem?_eq_getElem (by omega))
      have:=r b h3;omega
    omega)).below bl).but bo (.inl (Nat.le_refl _))
   have k3:=((L3.out.but (tn.but (lo:=m1) (hi:=m2) (by simp;omega)) (.inl (Nat.le_refl _))).below bl).but bo (.inl (by omega));have kb:Below w.heap.size w ((wr.alloc (.cells #[] 119)).setCell ⟨w1.heap.size,1,none⟩ (.slice (some ⟨wr.heap.size,0,none⟩) 0 0)):=LB.out.trans ((tn.below (N:=w.heap.size) (by omega) (by simp;omega)).trans ((bl.mono (by omega)).trans (bo.below (by omega) (by omega))));have zs:=bo.size;clear zl bo bl hS tn hfp xo yo ys yt q0 q1 q2 q3 XM hC0 HC1 HC2 MS0 RS0;go_wp2
   generalize ((wr.alloc (.cells #[] 119)).setCell ⟨w1.heap.size,1,none⟩ (.slice (some ⟨wr.heap.size,0,none⟩) 0 0))=wz at t0 t1 t2 t3 p0 p1 p2 p3 fz kl k0 k3 kb zs ⊢;have zL:=ZL.out;have hbt:But (w.heap.size+1) (w.heap.size+2) wz ((((wz.setCell ⟨w.heap.size+1,0,none⟩ (.slice (some ⟨gS,0,none⟩) n0 e0)).setCell ⟨w.heap.size+1,1,none⟩ (.slice (some ⟨wr.heap.size,0,none⟩) 0 0)).setCell ⟨w.heap.size+1,2,none⟩ (.bool false)).setCell ⟨w.heap.size+1,3,none⟩ (.slice b3 n3 e3)):=
    (((But.setCell (by omega) (by omega) _).trans (But.setCell (by omega) (by omega) _)).trans (But.setCell (by omega) (by omega) _)).trans (But.setCell (by omega) (by omega) _)
   have z9:=hbt.size;refine bodyPost_ret (v:=.agg #[.slice (some ⟨gS,0,none⟩) n0 e0,(.slice (some ⟨wr.heap.size,0,none⟩) 0 0),.bool false,.slice b3 n3 e3]) (by simp [results,Tryz.results119,go_sem,p0,p1,p2,p3]) rfl ?_
   exact ⟨_,_,_,rfl,cH (k0.but hbt (by omega)) (kl.but hbt (by omega)) (k3.but hbt (by omega)) (by omega) (by omega) (by omega) (by omega) (by omega) (by omega),Below.andBut kb hbt (by omega)⟩
 have hM:bF ss cs bs=false:=by simpa using hM
 have e1:gW ss cs f bs=ss:=by unfold gW;simp [hM]
 have e2:ip ss cs f bs=cs:=by unfold ip;simp [hM]
 rw [e1,e2];clear e1 e2;have hA:Below w.heap.size w ((w.alloc (.cells #[.slice a0 n0 c0,.slice a1 n1 c1,.bool f,.slice a3 n3 c3] 55)).alloc (.cells #[.slice none 0 0,.slice none 0 0,.bool false,.slice none 0 0] 55)):=((Below.refl _ _).alloc (Nat.le_refl _) _).alloc (by simp) _;have xm:Box ((w.alloc (.cells #[.slice a0 n0 c0,.slice a1 n1 c1,.bool f,.slice a3 n3 c3] 55)).alloc (.cells #[.slice none 0 0,.slice none 0 0,.bool false,.slice none 0 0] 55)) w.heap.size 55 #[.slice a0 n0 c0,.slice a1 n1 c1,.bool f,.slice a3 n3 c3]:=(Box.new w _ _).alloc _;have xr:Box ((w.alloc (.cells #[.slice a0 n0 c0,.slice a1 n1 c1,.bool f,.slice a3 n3 c3] 55)).alloc (.cells #[.slice none 0 0,.slice none 0 0,.bool false,.slice none 0 0] 55)) (w.heap.size+1) 55 #[.slice none 0 0,.slice none 0 0,.bool false,.slice none 0 0]:=by
  have:=Box.new (w.alloc (.cells #[.slice a0 n0 c0,.slice a1 n1 c1,.bool f,.slice a3 n3 c3] 55)) 55 #[.slice none 0 0,.slice none 0 0,.bool false,.slice none 0 0];rw [show (w.alloc (.cells #[.slice a0 n0 c0,.slice a1 n1 c1,.bool f,.slice a3 n3 c3] 55)).heap.size=w.heap.size+1 by simp] at this;exact this
 go_enter Tryz.func119,Tryz.ntmps119
 go_wp2_with fail
 generalize hW:(w.alloc (.cells #[.slice a0 n0 c0,.slice a1 n1 c1,.bool f,.slice a3 n3 c3] 55)).alloc (.cells #[.slice none 0 0,.slice none 0 0,.bool false,.slice none 0 0] 55)=W at hA xm xr ⊢;clear hW;have zr:=xr.lt;obtain ⟨q0,q1,q2,q3⟩:=xm.cells4;have XM:=aa xm;have XR:=aa xr;clear xm xr;refine (fE _ E _ _ _ _ _ _ _ _ _ ss cs f bs (h0.below hA) (h1.below hA) (h3.below hA) hw).mono ?_
 intro e w1 hc;obtain ⟨b0,b1,b3,e0,e1,e3,m1,m2,rfl,o3,o0,o1,r1,r2,r3,bb⟩:=de hl0 hl1 hl3 hc;clear hc;have z1:=bb.size;have sW:w.heap.size+2<=W.heap.size:=by omega
 have ba:Below w1.heap.size w1 (w1.alloc (.cells #[.slice b0 n0 e0,.slice b1 n1 e1,.bool f,.slice b3 n3 e3] 55)):=(Below.refl _ _).alloc (Nat.le_refl _) _;have yo:=Box.new w1 55 #[.slice b0 n0 e0,.slice b1 n1 e1,.bool f,.slice b3 n3 e3];have zo:=yo.lt;have YO:=aa yo;have YR:=aa ((XR.out.below bb zr).below ba (by omega));have YM:=aa ((XM.out.below bb (by omega)).below ba (by omega));have K0:=aa (o0.below ba);have K1:=aa (o1.below ba);have K3:=aa (o3.below ba);have KB:=aa (hA.trans ((bb.mono (by omega:w.heap.size<=W.heap.size)).trans (ba.mono (by omega))));clear yo o0 o1 o3 XM XR bb ba hA q0 q1 q2 q3;obtain ⟨q0,q1,q2,q3⟩:=YM.out.cells4;go_wp2_with fail
 generalize w1.alloc (.cells #[.slice b0 n0 e0,.slice b1 n1 e1,.bool f,.slice b3 n3 e3] 55)=w2 at YO YR YM K0 K1 K3 KB zo q0 q1 q2 q3 ⊢;refine (bw _ E _ _ _ _ _ _ _ _ _ ss cs f bs (h0.below KB.out) (h1.below KB.out) (h3.below KB.out) hw).mono ?_
 rintro e w3 ⟨rfl,b4⟩;have z3:=b4.size;have XO:=aa (YO.out.below b4 (by omega));have XR:=aa (YR.out.below b4 (by omega));have XM:=aa (YM.out.below b4 (by omega));have L0:=aa (K0.out.below b4);have L1:=aa (K1.out.below b4);have L3:=aa (K3.out.below b4);have LB:=aa (KB.out.trans (b4.mono (by have:=KB.out.size;omega)));clear YO YR YM K0 K1 K3 KB b4 q0 q1 q2 q3;obtain ⟨q0,q1,q2,q3⟩:=XM.out.cells4;obtain ⟨x0,x1,x2,x3⟩:=XO.out.cells4;obtain ⟨p0,p1,p2,p3⟩:=XR.out.cells4;have fz:=XR.out.frozen;have hbt:But (w.heap.size+1) (w.heap.size+2) w3 ((((w3.setCell ⟨w.heap.size+1,0,none⟩ (.slice b0 n0 e0)).setCell ⟨w.heap.size+1,1,none⟩ (.slice b1 n1 e1)).setCell ⟨w.heap.size+1,2,none⟩ (.bool f)).setCell ⟨w.heap.size+1,3,none⟩ (.slice b3 n3 e3)):=
  (((But.setCell (by omega) (by omega) _).trans (But.setCell (by omega) (by omega) _)).trans (But.setCell (by omega) (by omega) _)).trans (But.setCell (by omega) (by omega) _)
 have z9:=hbt.size;have FIN:Hid ((cu 119).Own ((((w3.setCell ⟨w.heap.size+1,0,none⟩ (.slice b0 n0 e0)).setCell ⟨w.heap.size+1,1,none⟩ (.slice b1 n1 e1)).setCell ⟨w.heap.size+1,2,none⟩ (.bool f)).setCell ⟨w.heap.size+1,3,none⟩ (.slice b3 n3 e3)) w.heap.size ((((w3.setCell ⟨w.heap.size+1,0,none⟩ (.slice b0 n0 e0)).setCell ⟨w.heap.size+1,1,none⟩ (.slice b1 n1 e1)).setCell ⟨w.heap.size+1,2,none⟩ (.bool f)).setCell ⟨w.heap.size+1,3,none⟩ (.slice b3 n3 e3)).heap.size [.slice b0 n0 e0,.slice b1 n1 e1,.bool f,.slice b3 n3 e3] (ss,cs,f,bs)):=cH (L0.out.but hbt (by omega)) (L1.out.but hbt (by omega)) (L3.out.but hbt (by omega)) (by omega) (by omega) (by omega) (by omega) (by omega) (by omega);have FB:=aa (Below.andBut LB.out hbt (by omega));clear hbt;go_wp2
 refine bodyPost_ret (v:=.agg #[.slice b0 n0 e0,.slice b1 n1 e1,.bool f,.slice b3 n3 e3]) (by simp [results,Tryz.results119,go_sem,p0,p1,p2,p3]) rfl ?_
 exact ⟨_,_,_,rfl,FIN.out,FB.out⟩
end Go.Proofs.YtgjomldcnjjpaaaGreat
