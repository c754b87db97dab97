/-
 A disk of one's own that is stored into the result's block: a plain lemma. No condition.
-/
import Derived.Test.YtejeekndbnpmoaaGreatRowWritesBentSq6
import Derived.Test.YtejeekndbnpmoaaGreatRowWritesBentSq2
import Derived.WideLaws
import Derived.Test.YtejeekndbnpmoaaGreatRowWritesBentSq3
import Derived.Lib.SliceRun

set_option maxRecDepth 100000
set_option maxHeartbeats 8000000
set_option linter.unusedSimpArgs false

namespace Go.Proofs.YtejeekndbnpmoaaGreat
open Go.RowKit Go.Maps
def gH (w:World) (ks:List (Int×List Int)) (j:Nat) (D:DataW Value):Prop:=
 ∀q:Nat,j<=q->(cT ks (q:Int)=none->Maps.has D (.int .i64 q)=false)/\∀zs,cT ks (q:Int)=some zs->Maps.has D (.int .i64 q)=true/\∃a cap,(∀z,D.atKey (.int .i64 q) z=.held (.agg #[.int .i64 q,.slice a zs.length cap]))/\aA.Rd w [.slice a zs.length cap] zs
theorem gG.rest {w:World} {ks:List (Int×List Int)} {D:DataW Value} (h:gG w ks D):gH w ks 0 D:=fun q _=>⟨(h q).1,fun zs hz=>by
 obtain ⟨h1,a,n,cap,h2,h3⟩:=(h q).2 zs hz;obtain ⟨hl,_,_⟩:=af h3;subst hl;exact ⟨h1,a,cap,h2,h3⟩⟩
theorem gH.next {w:World} {ks:List (Int×List Int)} {j:Nat} {D:DataW Value} (h:gH w ks j D):gH w ks (j+1) D:=fun q hq=>h q (by omega)
theorem gH.del {w:World} {ks:List (Int×List Int)} {j:Nat} {D:DataW Value} (h:gH w ks j D):gH w ks (j+1) (D.del (.int .i64 j)):=by
 intro q hq;have hne:(Lit.int .i64 (q:Int))≠Lit.int .i64 (j:Int):=fun e=>by simp at e;omega
 obtain ⟨h1,h2⟩:=h q (by omega);refine ⟨fun e=>by rw [has_del_other hne];exact h1 e,fun zs e=>?_⟩
 obtain ⟨h3,a,cap,h4,h5⟩:=h2 zs e;exact ⟨by rw [has_del_other hne];exact h3,a,cap,fun z=>by rw [atKey_del_other hne];exact h4 z,h5⟩
theorem gH.empty {w:World} {ks:List (Int×List Int)} {j:Nat} {D:DataW Value} (h:gH w ks j D) (hD:IsMap D) (hz:Maps.size D=0):∀q:Nat,j<=q->cT ks (q:Int)=none:=by
 intro q hq;cases hl:cT ks (q:Int) with
 | none=>rfl
 | some zs=>
  have h1:=((h q hq).2 zs hl).1;obtain ⟨es,rfl⟩:=hD;have h2:es=[]:=List.eq_nil_of_length_eq_zero hz;subst h2;simp [Maps.has] at h1
theorem sO {w:World} {ops:Array Oper} {rest:List Oper} {o:Oper} {a:Act} {Q:Exit->Act->World->Prop} (hg:o.guard=none) (m x:Operand) (hop:o.op=Op.lookup 210 m x true) (b n:Nat) (D:DataW Value) (q:Int) (v:Value)
 (hm:a.eval m=.map (some b)) (hown:w.ownsMap Tryz.prog 3 iO b n D) (hx:a.eval x=.int .i64 q) (hkey:keyOf Tryz.prog 3 (.int .i64 q)=some (.int .i64 q)) (h1:Maps.has D (.int .i64 q)=true) (h2:∀z,D.atKey (.int .i64 q) z=.held v)
 (hK:wpList Tryz.prog ops Q rest (a.put o.dst (.tuple #[v,.bool true])) w):wpList Tryz.prog ops Q (o :: rest) a w:=by
 refine wpList_lookup_own_ok w hg m x _ hop 3 171 oS Tryz.underlying210 iO (tL w) (.held (.agg #[.int .i64 0,.slice none 0 0])) [] rfl b n D hm hown _ _ hx hkey ?_
 intro v' ps hv;rw [h2] at hv;have hv':v'=v:=by simp [iO] at hv;exact hv.1
 subst hv';rw [h1];exact hK
theorem sP {w:World} {ops:Array Oper} {rest:List Oper} {o:Oper} {a:Act} {Q:Exit->Act->World->Prop} (hg:o.guard=none) (m x:Operand) (hop:o.op=Op.lookup 210 m x true) (b n:Nat) (D:DataW Value) (q:Int)
 (hm:a.eval m=.map (some b)) (hown:w.ownsMap Tryz.prog 3 iO b n D) (hx:a.eval x=.int .i64 q) (hkey:keyOf Tryz.prog 3 (.int .i64 q)=some (.int .i64 q)) (h1:Maps.has D (.int .i64 q)=false)
 (hK:wpList Tryz.prog ops Q rest (a.put o.dst (.tuple #[.agg #[.int .i64 0,.slice none 0 0],.bool false])) w):wpList Tryz.prog ops Q (o :: rest) a w:=by
 refine wpList_lookup_own_ok w hg m x _ hop 3 171 oS Tryz.underlying210 iO (tL w) (.held (.agg #[.int .i64 0,.slice none 0 0])) [] rfl b n D hm hown _ _ hx hkey ?_
 intro v ps hv;rw [Maps.atKey_of_not_has h1] at hv;have hv':v=.agg #[.int .i64 0,.slice none 0 0]:=by simp [iO] at hv;exact hv.1
 subst hv';rw [h1];exact hK
theorem Below.grows {w w':World} (h:Below w.heap.size w w'):w.grownBy w' none:=⟨h.os,h.tape,h.output,h.size,fun k hk _=>h.block k hk⟩
theorem qP (w:World) (E Ek:TypeId) (a0 a1 a3 ak:Option Addr) (n0 c0 n1 c1 n3 c3 nk ck:Nat) (ss:List (List Int)) (cs:List (Int×List Int)) (f:Bool) (bs:List Int) (h0:aT.Rd w [.slice a0 n0 c0] ss) (h1:(aU E).Rd w [.slice a1 n1 c1] cs) (h3:aA.Rd w [.slice a3 n3 c3] bs) (hw:aQ (ss,cs,f,bs)<=2097152) (ks:List (Int×List Int)) (hk:(aU Ek).Rd w [.slice ak nk ck] ks) (hwk:bh ks<=2097152) (hks:∀x∈ks,0<=x.1/\x.1<=20) (hn20:n0<=20):
 Calls Tryz.prog 274 #[.agg #[.slice a0 n0 c0,.slice a1 n1 c1,.bool f,.slice a3 n3 c3],.slice ak nk ck] w fun e w'=>∃v0 v1 v3,e=.returned (.agg #[v0,v1,.bool f,v3])/\(bR 171).Own w' w.heap.size w'.heap.size [v0,v1,.bool f,v3] (dr ss ks,[],f,bs)/\Below w.heap.size w w':=by
 obtain ⟨hl0,_,hm0⟩:=af h0;obtain ⟨hl1,_,hm1⟩:=af h1;obtain ⟨hl3,_,hm3⟩:=af h3;have hA:Below w.heap.size w ((w.alloc (.cells #[.slice a0 n0 c0,.slice a1 n1 c1,.bool f,.slice a3 n3 c3] 101)).alloc (.cells #[.slice none 0 0,.slice none 0 0,.bool false,.slice none 0 0] 101)):=((Below.refl _ _).alloc (Nat.le_refl _) _).alloc (by simp) _;have xr:Box ((w.alloc (.cells #[.slice a0 n0 c0,.slice a1 n1 c1,.bool f,.slice a3 n3 c3] 101)).alloc (.cells #[.slice none 0 0,.slice none 0 0,.bool false,.slice none 0 0] 101)) (w.heap.size+1) 101 #[.slice none 0 0,.slice none 0 0,.bool false,.slice none 0 0]:=by
  have:=Box.new (w.alloc (.cells #[.slice a0 n0 c0,.slice a1 n1 c1,.bool f,.slice a3 n3 c3] 101)) 101 #[.slice none 0 0,.slice none 0 0,.bool false,.slice none 0 0];rw [show (w.alloc (.cells #[.slice a0 n0 c0,.slice a1 n1 c1,.bool f,.slice a3 n3 c3] 101)).heap.size=w.heap.size+1 by simp] at this;exact this
 go_enter Tryz.func274,Tryz.ntmps274
 go_wp2_with fail
 generalize hW:(w.alloc (.cells #[.slice a0 n0 c0,.slice a1 n1 c1,.bool f,.slice a3 n3 c3] 101)).alloc (.cells #[.slice none 0 0,.slice none 0 0,.bool false,.slice none 0 0] 101)=W at hA xr ⊢;clear hW;have zr:=xr.lt;refine (ev _ E _ _ _ _ _ _ _ _ _ ss cs f bs (h0.below hA) (h1.below hA) (h3.below hA) hw).mono ?_
 intro e w1 hc;obtain ⟨b0,b1,b3,e0,e1,e3,m1,m2,rfl,o3,o0,o1,r1,r2,r3,bb⟩:=cQ hl0 hl1 hl3 hc;clear hc;have z1:=bb.size;obtain ⟨hlk,_,hmk⟩:=af hk;have hnk:nk<=2097152:=by unfold bh at hwk;omega
 have sW:w.heap.size+2<=W.heap.size:=by omega
 have ba:Below w1.heap.size w1 (w1.alloc (.cells #[.slice b0 n0 e0,.slice none 0 0,.bool f,.slice b3 n3 e3] 101)):=(Below.refl _ _).alloc (Nat.le_refl _) _;have yo:=Box.new w1 101 #[.slice b0 n0 e0,.slice none 0 0,.bool f,.slice b3 n3 e3];have yr:=(xr.below bb zr).below ba (by omega);have k0:=o0.below ba;have k3:=o3.below ba;have kb:=hA.trans ((bb.mono (by omega:w.heap.size<=W.heap.size)).trans (ba.mono (by omega)));have zo:=yo.lt;clear o0 o1 o3;have YO:=aa yo;have YR:=aa yr;have K0:=aa k0;have K3:=aa k3;have KB:=aa kb;clear yo yr k0 k3 xr;go_wp2_with fail
 generalize w1.alloc (.cells #[.slice b0 n0 e0,.slice none 0 0,.bool f,.slice b3 n3 e3] 101)=w2 at ba YO YR K0 K3 KB kb zo ⊢;have z2:=ba.size;refine (sN w w2 kb Ek ak nk ck ks hk hnk hks).mono ?_
 rintro e w3 ⟨rfl,b3',D,hown,hL⟩;have z3:=b3'.size;have XO:=aa (YO.out.below b3' (by omega));have XR:=aa (YR.out.below b3' (by omega));have L0:=aa (K0.out.below b3');have L3:=aa (K3.out.below b3');have LB:=aa (KB.out.trans (b3'.mono (by omega)));have HOW:=aa hown;have HL:=aa hL;clear YO YR K0 K3 KB kb b3' hown hL ba;have hgs:∃gS,(n0=0∨b0=some ⟨gS,0,none⟩)/\m1<=gS/\gS<w3.heap.size/\gS≠w1.heap.size:=by
  rcases L0.out.rowShape with h|⟨g,rfl⟩
  . exact ⟨w2.heap.size,.inl h,by omega,HOW.out.lt,by omega⟩
  obtain ⟨fq,mq,rq⟩:=L0.out.mine;have hgm:=(eO mq).1;have:=rq g hgm;exact ⟨g,.inr rfl,by omega,by omega,by omega⟩
 obtain ⟨gS,hg0,hg1,hg2,hg3⟩:=hgs;obtain ⟨fpS0,mS0,rS0⟩:=L0.out.mine;have MS0:=aa mS0;have RS0:=aa rS0;clear mS0 rS0;obtain ⟨x0,x1,x2,x3⟩:=XO.out.cells4;go_wp2
 clear x0 x1 x2 x3;have hB3:=HOW.out.lt;go_loopw [7] (fun i wr=>∃(j:Nat) (Dm:DataW Value) (fpS:List Nat),j<=n0/\i=.int .i64 j/\aw [gS,w2.heap.size] w3 wr/\aT.Mine wr [.slice b0 n0 e0] (fY ss ks j) fpS/\(∀b∈fpS,m1<=b/\(b<m2∨w3.heap.size<=b))/\wr.ownsMap Tryz.prog 3 iO w2.heap.size nk Dm/\gH w ks j Dm) (fun i _=>n0-(intOf i).toNat)
 case atStart=>exact ⟨0,D,fpS0,Nat.zero_le _,rfl,aw.refl _ _,by rw [qM];exact MS0.out,fun b hb=>by have:=RS0.out b hb;omega,HOW.out,HL.out.rest⟩
 obtain ⟨j,Dm,fpS,hj,rfl,tn,hS,hfp,how,hR⟩:=hrel;have hs:=tn.size;have xo:=XO.out.turned tn (by simp;omega);obtain ⟨q0,q1,q2,q3⟩:=xo.cells4;have hlen:=how.len Tryz.underlying210 3;have hszn:=how.size_le;generalize hsz:Maps.size Dm=sz at hlen hszn;have HSZ:=aa hsz;clear hsz;by_cases hjn:j<n0
 . have k1:(0:Int)<=(j:Int):=by omega
   have k2:(j:Int)<(n0:Int):=by omega
   by_cases hpos:0<sz
   . have k5:(0:Int)<(sz:Int):=by omega
     have HKEY:=aa (vj (q:=(j:Int)) (by omega) (by omega));have HOWR:=aa how;have HRR:=aa hR;have HFP:=aa hfp;have HSS:=aa hS;have TN:=aa tn;have XOR:=aa xo;clear how hR hfp hS tn xo;cases hlw:cT ks (j:Int) with
     | none=>
      have HN:=aa ((HRR.out j (Nat.le_refl _)).1 hlw);have HP:=aa (qO (ss:=ss) hlw);have MA:=aa (HSS.out.alloc (.cells #[.int .i64 0,.slice none 0 0] 171));have TA:=aa (TN.out.alloc (.cells #[.int .i64 0,.slice none 0 0] 171));have OA:=aa (HOWR.out.alloc (.cells #[.int .i64 0,.slice none 0 0] 171));clear hlw;go_wp2_with (at_lookup;refine sP rfl _ _ rfl w2.heap.size nk Dm (j:Int) rfl HOWR.out rfl HKEY.out HN.out ?_)
      go_roundw
      case rel=>exact ⟨j+1,Dm,fpS,by omega,by go_num,TA.out,by rw [HP.out];exact MA.out,HFP.out,OA.out,HRR.out.next⟩
      case measure=>simp [intOf];omega
     | some zs=>
      obtain ⟨hh1,la,lc,hh2,hh3⟩:=(HRR.out j (Nat.le_refl _)).2 zs hlw;have H1:=aa hh1;have H2:=aa hh2;have HP:=aa (qN (ss:=ss) (by omega) hlw);have hzl:zs.length<=2097152:=tM hwk hlw;rcases hg0 with hg0|hg0
      . omega
      subst hg0;have bA:Below wr.heap.size wr (wr.alloc (.cells #[.int .i64 (j:Int),.slice la zs.length lc] 171)):=(Below.refl _ _).alloc (Nat.le_refl _) _;have zA:wr.heap.size<(wr.alloc (.cells #[.int .i64 (j:Int),.slice la zs.length lc] 171)).heap.size:=by simp
      have XW:=aa (Box.new wr 171 #[.int .i64 (j:Int),.slice la zs.length lc]);have XOA:=aa (XOR.out.alloc (.cells #[.int .i64 (j:Int),.slice la zs.length lc] 171));have MA:=aa (HSS.out.alloc (.cells #[.int .i64 (j:Int),.slice la zs.length lc] 171));have TA:=aa (TN.out.alloc (.cells #[.int .i64 (j:Int),.slice la zs.length lc] 171));have OA:=aa (HOWR.out.alloc (.cells #[.int .i64 (j:Int),.slice la zs.length lc] 171));have RD:=aa (hh3.below (LB.out.trans ((TN.out.below (N:=w.heap.size) (by omega) (by simp;omega)).trans (bA.mono (by omega)))));clear hlw hh1 hh2 hh3 bA;go_wp2_with (at_lookup;refine sO rfl _ _ rfl w2.heap.size nk Dm (j:Int) (.agg #[.int .i64 (j:Int),.slice la zs.length lc]) rfl HOWR.out rfl HKEY.out H1.out H2.out ?_)
      generalize wr.alloc (.cells #[.int .i64 (j:Int),.slice la zs.length lc] 171)=w8 at XW XOA MA TA OA RD zA ⊢;have zT:=TA.out.size;have hSc:∀w',Box w' w1.heap.size 101 #[.slice (some ⟨gS,0,none⟩) n0 e0,.slice none 0 0,.bool f,.slice b3 n3 e3]->Box w' wr.heap.size 171 #[.int .i64 (j:Int),.slice la zs.length lc]->w'.cell? ⟨w1.heap.size,0,none⟩=some (.slice (some ⟨gS,0,none⟩) n0 e0)/\w'.cell? ⟨wr.heap.size,1,none⟩=some (.slice la zs.length lc):=fun w' e1 e2=>⟨e1.cell 0,e2.cell 1⟩;have hSd:∀w',Box w' w1.heap.size 101 #[.slice (some ⟨gS,0,none⟩) n0 e0,.slice none 0 0,.bool f,.slice b3 n3 e3]->Box w' wr.heap.size 171 #[.int .i64 (j:Int),.slice la zs.length lc]->w'.drew.cell? ⟨w1.heap.size,0,none⟩=some (.slice (some ⟨gS,0,none⟩) n0 e0)/\w'.drew.cell? ⟨wr.heap.size,1,none⟩=some (.slice la zs.length lc):=hSc;have nO:Hid (w1.heap.size≠gS):=by unfold Hid;omega
      have nW:Hid (wr.heap.size≠gS):=by unfold Hid;omega
      go_region_held3 (fun w'=>w'.cell? ⟨w1.heap.size,0,none⟩=some (.slice (some ⟨gS,0,none⟩) n0 e0)/\w'.cell? ⟨wr.heap.size,1,none⟩=some (.slice la zs.length lc))
       (first|(with_reducible exact hSd w8 XOA.out XW.out)|(with_reducible exact hSc wc XOC.out XWC.out)|(with_reducible exact hSc _ (XOC.out.other nO.out _ _) (XWC.out.other nW.out _ _))|go_keep)
       (first
        | (go_at_call 163;refine (bZ _ _ _ _ zs (by exact RD.out.drew) (by omega)).mono ?_;rintro e wc ⟨ac,cc,rfl,oc,hbc⟩;have hbc':Below w8.heap.size w8 wc:=(by exact (Below.refl w8.heap.size w8).drew.trans hbc);have XOC:=aa (XOA.out.below hbc' (by omega));have XWC:=aa (XW.out.below hbc' (by omega));have mc:=MA.out.below hbc';have hlt:=MA.out.lt;obtain ⟨fpx,mx,rx⟩:=Ty.Own.mine (lo:=w8.heap.size) oc;obtain ⟨⟨old,cOld⟩,fz,hgm,fpA,mA,rA⟩:=gK (j:=j) rfl mc hjn mx (fun b hb hb'=>by have h1:=hlt b hb';have h2:=rx b hb;omega);have MX:=aa mA;have RA:=aa rA;have RX:=aa rx;have HBC:=aa hbc';have HGM:=aa hgm;clear mc hlt mx rx oc hbc hbc' mA rA hgm))
      have zc:=HBC.out.size;have OD:=aa ((OA.out.kept (Below.grows HBC.out) (by simp)).setCell (a:=⟨gS,j,none⟩) (by simp only;have h1:=HFP.out gS HGM.out;omega) (.slice ac zs.length cc));have hfA:∀b∈fpA,m1<=b/\(b<m2∨w3.heap.size<=b):=fun b hb=>by
       rcases RA.out b hb with h|h
       . exact HFP.out b h
       have:=RX.out b h;omega
      have TD:=aa ((TA.out.trans (aw.ofBelow HBC.out _)).trans (aw.setCell (w:=wc) (g:=gS) (j:=j) (.slice ac zs.length cc) (List.mem_cons_self:gS∈[gS,w2.heap.size])));have HFA:=aa hfA;clear hfA XOC XWC XOA XW nO nW hSc hSd RA RX HBC MA TA OA RD cOld fz H1 H2;go_wp2_with (at_delete;refine wpList_delete_own _ rfl _ _ 210 3 rfl 171 oS Tryz.underlying210 iO w2.heap.size nk Dm rfl OD.out _ _ rfl HKEY.out ?_;intro wD hownD hturnD;have HOD:=aa hownD;have HTD:=aa hturnD.grown;clear hownD hturnD)
      have tD:aw [w2.heap.size] (wc.setCell ⟨gS,j,none⟩ (.slice ac zs.length cc)) wD:=⟨HTD.out.os,HTD.out.tape,HTD.out.output,HTD.out.size,fun k hk hf=>HTD.out.block k hk (by simp at hf ⊢;exact hf)⟩;have TF:=aa (TD.out.trans (tD.mono (fun b hb=>List.mem_cons_of_mem _ hb)));have MF:=aa (MX.out.kept tD (fun b hb hb'=>by have h1:=HFA.out b hb;simp at hb';omega));clear tD TD MX HTD OD;go_roundw
      case rel=>exact ⟨j+1,Dm.del (.int .i64 (j:Int)),fpA,by omega,by go_num,TF.out,by rw [HP.out];exact MF.out,HFA.out,HOD.out,HRR.out.del⟩
      case measure=>simp [intOf];omega
   have HD:Hid (fY ss ks j=dr ss ks):=nU (fun k hk hkl=>hR.empty how.isMap (by have:=HSZ.out;omega) k hk);have k5:¬(0:Int)<(sz:Int):=by omega
   have K0':=hS.own (lo:=m1) (hi:=wr.heap.size) (fun b hb=>by have h1:=hfp b hb;have h2:=hS.lt b hb;omega);have xr:=XR.out.turned tn (by simp;omega);obtain ⟨p0,p1,p2,p3⟩:=xr.cells4;have fz:=xr.frozen;have K3':=L3.out.but (tn.but (lo:=m1) (hi:=w3.heap.size) (by simp;omega)) (.inl (Nat.le_refl _));have KB':=LB.out.trans (tn.below (N:=w.heap.size) (by omega) (by simp;omega));have hbt:But (w.heap.size+1) (w.heap.size+2) wr ((((wr.setCell ⟨w.heap.size+1,0,none⟩ (.slice b0 n0 e0)).setCell ⟨w.heap.size+1,1,none⟩ (.slice none 0 0)).setCell ⟨w.heap.size+1,2,none⟩ (.bool f)).setCell ⟨w.heap.size+1,3,none⟩ (.slice b3 n3 e3)):=
    (((But.setCell (by omega) (by omega) _).trans (But.setCell (by omega) (by omega) _)).trans (But.setCell (by omega) (by omega) _)).trans (But.setCell (by omega) (by omega) _)
   have z9:=hbt.size;have FIN:Hid ((bR 171).Own ((((wr.setCell ⟨w.heap.size+1,0,none⟩ (.slice b0 n0 e0)).setCell ⟨w.heap.size+1,1,none⟩ (.slice none 0 0)).setCell ⟨w.heap.size+1,2,none⟩ (.bool f)).setCell ⟨w.heap.size+1,3,none⟩ (.slice b3 n3 e3)) w.heap.size ((((wr.setCell ⟨w.heap.size+1,0,none⟩ (.slice b0 n0 e0)).setCell ⟨w.heap.size+1,1,none⟩ (.slice none 0 0)).setCell ⟨w.heap.size+1,2,none⟩ (.bool f)).setCell ⟨w.heap.size+1,3,none⟩ (.slice b3 n3 e3)).heap.size [.slice b0 n0 e0,.slice none 0 0,.bool f,.slice b3 n3 e3] (fY ss ks j,[],f,bs)):=(ch (K0'.but hbt (by omega)) (ij _ wr.heap.size wr.heap.size) (K3'.but hbt (by omega)) (by omega) (by omega) (by omega) (by omega) (by omega) (by omega));have FB:=aa (Below.andBut KB' hbt (by omega));clear K0' K3' KB' xr hS tn how hR hfp hbt xo;go_wp2
   refine bodyPost_ret (v:=.agg #[.slice b0 n0 e0,.slice none 0 0,.bool f,.slice b3 n3 e3]) (by simp [results,Tryz.results274,go_sem,p0,p1,p2,p3]) rfl ?_
   exact ⟨_,_,_,rfl,by rw [←HD.out];exact FIN.out,FB.out⟩
 have e:n0=j:=by omega
 subst e;have HD:Hid (fY ss ks n0=dr ss ks):=nU (fun k hk hkl=>by omega);have K0':=hS.own (lo:=m1) (hi:=wr.heap.size) (fun b hb=>by have h1:=hfp b hb;have h2:=hS.lt b hb;omega);have xr:=XR.out.turned tn (by simp;omega);obtain ⟨p0,p1,p2,p3⟩:=xr.cells4;have fz:=xr.frozen;have K3':=L3.out.but (tn.but (lo:=m1) (hi:=w3.heap.size) (by simp;omega)) (.inl (Nat.le_refl _));have KB':=LB.out.trans (tn.below (N:=w.heap.size) (by omega) (by simp;omega));have hbt:But (w.heap.size+1) (w.heap.size+2) wr ((((wr.setCell ⟨w.heap.size+1,0,none⟩ (.slice b0 n0 e0)).setCell ⟨w.heap.size+1,1,none⟩ (.slice none 0 0)).setCell ⟨w.heap.size+1,2,none⟩ (.bool f)).setCell ⟨w.heap.size+1,3,none⟩ (.slice b3 n3 e3)):=
  (((But.setCell (by omega) (by omega) _).trans (But.setCell (by omega) (by omega) _)).trans (But.setCell (by omega) (by omega) _)).trans (But.setCell (by omega) (by omega) _)
 have z9:=hbt.size;have FIN:Hid ((bR 171).Own ((((wr.setCell ⟨w.heap.size+1,0,none⟩ (.slice b0 n0 e0)).setCell ⟨w.heap.size+1,1,none⟩ (.slice none 0 0)).setCell ⟨w.heap.size+1,2,none⟩ (.bool f)).setCell ⟨w.heap.size+1,3,none⟩ (.slice b3 n3 e3)) w.heap.size ((((wr.setCell ⟨w.heap.size+1,0,none⟩ (.slice b0 n0 e0)).setCell ⟨w.heap.size+1,1,none⟩ (.slice none 0 0)).setCell ⟨w.heap.size+1,2,none⟩ (.bool f)).setCell ⟨w.heap.size+1,3,none⟩ (.slice b3 n3 e3)).heap.size [.slice b0 n0 e0,.slice none 0 0,.bool f,.slice b3 n3 e3] (fY ss ks n0,[],f,bs)):=(ch (K0'.but hbt (by omega)) (ij _ wr.heap.size wr.heap.size) (K3'.but hbt (by omega)) (by omega) (by omega) (by omega) (by omega) (by omega) (by omega));have FB:=aa (Below.andBut KB' hbt (by omega));clear K0' K3' KB' xr hS tn how hR hfp hbt xo;go_wp2
 refine bodyPost_ret (v:=.agg #[.slice b0 n0 e0,.slice none 0 0,.bool f,.slice b3 n3 e3]) (by simp [results,Tryz.results274,go_sem,p0,p1,p2,p3]) rfl ?_
 exact ⟨_,_,_,rfl,by rw [←HD.out];exact FIN.out,FB.out⟩
end Go.Proofs.YtejeekndbnpmoaaGreat

namespace Go.Proofs.YtejeekndbnpmoaaGreat
open Go.RowKit

theorem dG (w:World) (a0:Option Addr) (n0 c0:Nat) (v1 v2 v3:Value) (x:Int):
 Calls Tryz.prog 192 #[.agg #[.slice a0 n0 c0,v1,v2,v3],.int .i64 x] w fun e w'=>e=.returned (.bool (inB x 0 ((n0:Int)-1)))/\Below w.heap.size w w':=by
 have hA:Below w.heap.size w (w.alloc (.cells #[.slice a0 n0 c0,v1,v2,v3] 101)):=(Below.refl _ _).alloc (Nat.le_refl _) _;have hcell:(w.alloc (.cells #[.slice a0 n0 c0,v1,v2,v3] 101)).cell? ⟨w.heap.size,0,none⟩=some (.slice a0 n0 c0):=by
  rw [cell_of_row _ w.heap.size 0 _ _ (0,0) (heap_alloc_new w _)];rfl
 by_cases h0:0<=x
 . by_cases h1:x<(n0:Int)
   . go_enter Tryz.func192,Tryz.ntmps192
     go_wp2
     go_ret
     exact ⟨ag (by symm;unfold inB;simp;omega),hA⟩
   go_enter Tryz.func192,Tryz.ntmps192
   go_wp2
   go_ret
   exact ⟨ag (by symm;unfold inB;simp;omega),hA⟩
 go_enter Tryz.func192,Tryz.ntmps192
 go_wp2
 go_ret
 exact ⟨ag (by symm;unfold inB;simp;omega),hA⟩
theorem sQ (w:World) (a0:Option Addr) (n0 c0:Nat) (v1 v2:Value) (a3:Option Addr) (n3 c3:Nat) (bs:List Int) (h3:aA.Rd w [.slice a3 n3 c3] bs):
 Calls Tryz.prog 212 #[.agg #[.slice a0 n0 c0,v1,v2,.slice a3 n3 c3]] w fun e w'=>e=.returned (.bool (ik n0 bs))/\Below w.heap.size w w':=by
 obtain ⟨hl3,_,hm3⟩:=af h3;have hA:Below w.heap.size w (w.alloc (.cells #[.slice a0 n0 c0,v1,v2,.slice a3 n3 c3] 101)):=(Below.refl _ _).alloc (Nat.le_refl _) _;have hcell:∀j v,(#[Value.slice a0 n0 c0,v1,v2,.slice a3 n3 c3])[j]?=some v->(w.alloc (.cells #[.slice a0 n0 c0,v1,v2,.slice a3 n3 c3] 101)).cell? ⟨w.heap.size,j,none⟩=some v:=by
  intro j v hv;rw [cell_of_row _ w.heap.size j _ _ (0,0) (heap_alloc_new w _)];exact hv
 have k0:=hcell 0 _ rfl;have k1:=hcell 1 _ rfl;have k2:=hcell 2 _ rfl;have k3:=hcell 3 _ rfl;have g3:=h3.below hA;have hz:w.heap.size<(w.alloc (.cells #[.slice a0 n0 c0,v1,v2,.slice a3 n3 c3] 101)).heap.size:=by simp
 go_enter Tryz.func212,Tryz.ntmps212
 go_wp2
 generalize hW:w.alloc (.cells #[.slice a0 n0 c0,v1,v2,.slice a3 n3 c3] 101)=W at hA k0 k1 k2 k3 g3 hz ⊢;clear hW hcell h3;go_loopw [8] (fun i wr=>∃i3:Nat,i3<=n3/\i=.int .i64 i3/\(List.range i3).all (dA n0 bs)=true/\Below W.heap.size W wr) (fun i _=>n3-(intOf i).toNat)
 case atStart=>exact ⟨0,Nat.zero_le _,rfl,rfl,Below.refl _ _⟩
 obtain ⟨i3,hi3,rfl,ht,hs⟩:=hrel;have q0:=(hs.cell (p:=⟨w.heap.size,0,none⟩) hz).trans k0;have q1:=(hs.cell (p:=⟨w.heap.size,1,none⟩) hz).trans k1;have q2:=(hs.cell (p:=⟨w.heap.size,2,none⟩) hz).trans k2;have q3:=(hs.cell (p:=⟨w.heap.size,3,none⟩) hz).trans k3;have hzr:w.heap.size<wr.heap.size:=Nat.lt_of_lt_of_le hz hs.size;by_cases hi3n:i3<n3
 . obtain ⟨R3,_,_,_⟩:=aP g3
   rcases R3.cases with h0'|⟨b,off,rfl,hbl,hcs⟩
   . omega
   have hbr:b<wr.heap.size:=Nat.lt_of_lt_of_le hbl hs.size;have p0:=(hs.cell (p:=⟨b,off+i3,none⟩) hbl).trans (hcs i3 (by omega));have HT:=aa ht;have hrs:(List.range (i3+1)).all (dA n0 bs)=((List.range i3).all (dA n0 bs)&&dA n0 bs i3):=by rw [List.range_succ,List.all_append];simp
   have hrn:dA n0 bs i3=false->ik n0 bs=false:=by
    intro h;unfold ik;rw [List.all_eq_false];exact ⟨i3,by simp;omega,by simp [h]⟩
   have hbd:dA n0 bs i3=(inB (bs.getD i3 0) 0 ((n0:Int)-1)&&(decide (i3=0)||decide (bs.getD (i3-1) 0<bs.getD i3 0))):=rfl;have i1:(0:Int)<=(i3:Int):=by omega
   have i2':(i3:Int)<(n3:Int):=by omega
   by_cases hI:inB (bs.getD i3 0) 0 ((n0:Int)-1)=true
   . by_cases hz3:i3=0
     . have HD:Hid ((List.range (i3+1)).all (dA n0 bs)=true):=by unfold Hid;rw [hrs,HT.out,hbd,hI,decide_eq_true hz3];rfl
       generalize bs.getD i3 0=y at p0 hI;have d0:decide ((0:Int)<(i3:Int))=false:=decide_eq_false (by omega);have d0b:decide (0<i3)=false:=decide_eq_false (by omega);have HZ:=aa hz3;clear hcs ht hrs hrn hbd hz3 R3;go_wp2_with fail
       refine (dG _ _ _ _ _ _ _ _).mono ?_
       rintro e w5 ⟨rfl,hb5'⟩;have r0:=(hb5'.cell (p:=⟨w.heap.size,0,none⟩) hzr).trans q0;have r1:=(hb5'.cell (p:=⟨w.heap.size,1,none⟩) hzr).trans q1;have r2:=(hb5'.cell (p:=⟨w.heap.size,2,none⟩) hzr).trans q2;have r3:=(hb5'.cell (p:=⟨w.heap.size,3,none⟩) hzr).trans q3;have hs5:=hs.trans (hb5'.mono hs.size);clear q0 q1 q2 q3 hb5';go_wp2
       go_roundw
       case rel=>exact ⟨i3+1,by omega,by go_num,HD.out,hs5⟩
       case measure=>simp [intOf];omega
     have p1:=(hs.cell (p:=⟨b,off+(i3-1),none⟩) hbl).trans (hcs (i3-1) (by omega));have d0:decide ((0:Int)<(i3:Int))=true:=decide_eq_true (by omega);have d0b:decide (0<i3)=true:=decide_eq_true (by omega);have gv:IntKind.i64.wrap ((i3:Int)-1)=(i3:Int)-1:=IntWalk.i64_in _ (by omega);have gt:((i3:Int)-1).toNat=i3-1:=by omega
     have i3a:(0:Int)<=(i3:Int)-1:=by omega
     have i3b:(i3:Int)-1<(n3:Int):=by omega
     by_cases hlt:bs.getD (i3-1) 0<bs.getD i3 0
     . have HD:Hid ((List.range (i3+1)).all (dA n0 bs)=true):=by unfold Hid;rw [hrs,HT.out,hbd,hI,decide_eq_true hlt];simp
       generalize bs.getD i3 0=y at p0 hI hlt;generalize bs.getD (i3-1) 0=z at p1 hlt;have d1:¬y<=z:=by omega
       clear hcs ht hrs hrn hbd hz3 R3;go_wp2_with fail
       refine (dG _ _ _ _ _ _ _ _).mono ?_
       rintro e w5 ⟨rfl,hb5'⟩;have r0:=(hb5'.cell (p:=⟨w.heap.size,0,none⟩) hzr).trans q0;have r1:=(hb5'.cell (p:=⟨w.heap.size,1,none⟩) hzr).trans q1;have r2:=(hb5'.cell (p:=⟨w.heap.size,2,none⟩) hzr).trans q2;have r3:=(hb5'.cell (p:=⟨w.heap.size,3,none⟩) hzr).trans q3;have p2:=(hb5'.cell (p:=⟨b,off+(i3-1),none⟩) hbr).trans p1;have hs5:=hs.trans (hb5'.mono hs.size);clear q0 q1 q2 q3 hb5';go_wp2
       go_roundw
       case rel=>exact ⟨i3+1,by omega,by go_num,HD.out,hs5⟩
       case measure=>simp [intOf];omega
     have HN:=aa (hrn (by rw [hbd,hI,decide_eq_false hz3,decide_eq_false hlt];rfl));generalize bs.getD i3 0=y at p0 hI hlt;generalize bs.getD (i3-1) 0=z at p1 hlt;have d1:y<=z:=by omega
     clear hcs ht hrs hrn hbd hz3 R3;go_wp2_with fail
     refine (dG _ _ _ _ _ _ _ _).mono ?_
     rintro e w5 ⟨rfl,hb5'⟩;have r0:=(hb5'.cell (p:=⟨w.heap.size,0,none⟩) hzr).trans q0;have r1:=(hb5'.cell (p:=⟨w.heap.size,1,none⟩) hzr).trans q1;have r2:=(hb5'.cell (p:=⟨w.heap.size,2,none⟩) hzr).trans q2;have r3:=(hb5'.cell (p:=⟨w.heap.size,3,none⟩) hzr).trans q3;have p2:=(hb5'.cell (p:=⟨b,off+(i3-1),none⟩) hbr).trans p1;have hs5:=hs.trans (hb5'.mono hs.size);clear q0 q1 q2 q3 hb5';go_wp2
     go_ret
     exact ⟨ag HN.out.symm,Below.andThen hA hs5⟩
   have hI:inB (bs.getD i3 0) 0 ((n0:Int)-1)=false:=by simpa using hI
   have HN:=aa (hrn (by rw [hbd,hI];rfl));generalize bs.getD i3 0=y at p0 hI;clear hcs ht hrs hrn hbd R3;go_wp2_with fail
   refine (dG _ _ _ _ _ _ _ _).mono ?_
   rintro e w5 ⟨rfl,hb5'⟩;have r0:=(hb5'.cell (p:=⟨w.heap.size,0,none⟩) hzr).trans q0;have r1:=(hb5'.cell (p:=⟨w.heap.size,1,none⟩) hzr).trans q1;have r2:=(hb5'.cell (p:=⟨w.heap.size,2,none⟩) hzr).trans q2;have r3:=(hb5'.cell (p:=⟨w.heap.size,3,none⟩) hzr).trans q3;have hs5:=hs.trans (hb5'.mono hs.size);clear q0 q1 q2 q3 hb5';go_wp2
   go_ret
   exact ⟨ag HN.out.symm,Below.andThen hA hs5⟩
 have e3:i3=n3:=by omega
 have HB:Hid (ik n0 bs=true):=by unfold Hid ik;rw [hl3,←e3];exact ht
 clear ht hi3;go_wp2
 go_ret
 exact ⟨ag HB.out.symm,Below.andThen hA hs⟩
theorem ce (w:World) (E:TypeId) (a0 a1 a3:Option Addr) (n0 c0 n1 c1 n3 c3:Nat) (ss:List (List Int)) (cs:List (Int×List Int)) (f:Bool) (bs:List Int) (h0:aT.Rd w [.slice a0 n0 c0] ss) (h1:(aU E).Rd w [.slice a1 n1 c1] cs) (h3:aA.Rd w [.slice a3 n3 c3] bs) (hw:aQ (ss,cs,f,bs)<=2097152):
 Calls Tryz.prog 155 #[.agg #[.slice a0 n0 c0,.slice a1 n1 c1,.bool f,.slice a3 n3 c3]] w fun e w'=>e=.returned (.bool (bp ss cs bs))/\Below w.heap.size w w':=by
 obtain ⟨hl0,_,hm0⟩:=af h0;obtain ⟨hl1,_,hm1⟩:=af h1;obtain ⟨hl3,_,hm3⟩:=af h3;have hw0:cP ss<=2097152:=by unfold aQ at hw;simp only at hw;omega
 have hw1:bh cs<=2097152:=by unfold aQ at hw;simp only at hw;omega
 have hA:Below w.heap.size w (w.alloc (.cells #[.slice a0 n0 c0,.slice a1 n1 c1,.bool f,.slice a3 n3 c3] 101)):=(Below.refl _ _).alloc (Nat.le_refl _) _;have hcell:∀j v,(#[Value.slice a0 n0 c0,.slice a1 n1 c1,.bool f,.slice a3 n3 c3])[j]?=some v->(w.alloc (.cells #[.slice a0 n0 c0,.slice a1 n1 c1,.bool f,.slice a3 n3 c3] 101)).cell? ⟨w.heap.size,j,none⟩=some v:=by
  intro j v hv;rw [cell_of_row _ w.heap.size j _ _ (0,0) (heap_alloc_new w _)];exact hv
 have k0:=hcell 0 _ rfl;have k1:=hcell 1 _ rfl;have k2:=hcell 2 _ rfl;have k3:=hcell 3 _ rfl;have g0:=h0.below hA;have g1:=h1.below hA;have g3:=h3.below hA;have hz:w.heap.size<(w.alloc (.cells #[.slice a0 n0 c0,.slice a1 n1 c1,.bool f,.slice a3 n3 c3] 101)).heap.size:=by simp
 by_cases c1':(1:Int)<=(n0:Int)
 . by_cases c2':(n0:Int)<=20
   . by_cases c3':(n1:Int)<=60
     . have hI0:inB (ss.length:Int) 1 20=true:=by unfold inB;rw [hl0];simp;omega
       have hI1:decide (cs.length<=60)=true:=decide_eq_true (by omega);have HI0:=aa hI0;have HI1:=aa hI1;clear hI0 hI1;go_enter Tryz.func155,Tryz.ntmps155
       go_wp2
       generalize hW:w.alloc (.cells #[.slice a0 n0 c0,.slice a1 n1 c1,.bool f,.slice a3 n3 c3] 101)=W at hA k0 k1 k2 k3 g0 g1 g3 hz ⊢;clear hW hcell h0 h1 h3;go_loopw [26] (fun i wr=>∃j:Nat,j<=n0/\i=.int .i64 j/\(ss.take j).all da=true/\aN W wr) (fun i _=>n0-(intOf i).toNat)
       case atStart=>exact ⟨0,Nat.zero_le _,rfl,rfl,aN.refl _⟩
       obtain ⟨j,hj,rfl,ht,hs⟩:=hrel;by_cases hjn:j<n0
       . rcases ii rfl g0 with h0'|⟨b,off,rfl,hbl,hcs⟩
         . omega
         have hdj:ss[j]?=some (ss[j]'(by omega)):=List.getElem?_eq_getElem (by omega);generalize ss[j]'(by omega)=x at hdj;have hal:=jL (p:=da) hdj;have hil:=fQ hdj;obtain ⟨v,hv,hrv⟩:=hcs j x hdj;obtain ⟨av,cv,rfl⟩:=az hrv;have q1:=(hs.cell ⟨b,off+j,none⟩).trans hv;obtain ⟨r1,_,_,_⟩:=aP (hrv.same hs);have HT:=aa ht;clear hcs hdj hv hrv ht;by_cases hx:da x=true
         . have HD:=aa (hal.1 hx HT.out)
           clear hal;go_wp2_with fail
           refine (bO _ _ _ _ x rfl r1 (by omega)).mono ?_
           rintro e w1 ⟨rfl,hs1⟩;go_wp2
           go_roundw
           case rel=>exact ⟨j+1,by omega,by go_num,HD.out,hs.trans hs1⟩
           case measure=>simp [intOf];omega
         have hx:da x=false:=by simpa using hx
         have HN:=aa (hal.2 hx);clear hal;go_wp2_with fail
         refine (bO _ _ _ _ x rfl r1 (by omega)).mono ?_
         rintro e w1 ⟨rfl,hs1⟩;go_wp2
         go_ret
         exact ⟨ag (by unfold bp;rw [HN.out];rfl),Below.andSame (Below.andSame hA hs) hs1⟩
       have e:j=n0:=by omega
       subst e;rw [List.take_of_length_le (by omega)] at ht;have HS0:=aa ht;have hss:ss.length=j:=hl0;have q1:=(hs.cell _).trans k1;clear ht hj hjn;go_wp2
       clear q1;go_loopw [37] (fun i wr=>∃i2:Nat,i2<=n1/\i=.int .i64 i2/\(cs.take i2).all (wrB j)=true/\Below W.heap.size W wr) (fun i _=>n1-(intOf i).toNat)
       case atStart=>exact ⟨0,Nat.zero_le _,rfl,rfl,hs.below _⟩
       clear hs;obtain ⟨i2,hi2,rfl,ht,hs⟩:=hrel;have hzr:w.heap.size<wr.heap.size:=Nat.lt_of_lt_of_le hz hs.size;have q0:=(hs.cell (p:=⟨w.heap.size,0,none⟩) hz).trans k0;have q1:=(hs.cell (p:=⟨w.heap.size,1,none⟩) hz).trans k1;have q2:=(hs.cell (p:=⟨w.heap.size,2,none⟩) hz).trans k2;have q3:=(hs.cell (p:=⟨w.heap.size,3,none⟩) hz).trans k3;by_cases hin:i2<n1
       . rcases cY rfl g1 with h0'|⟨b,off,rfl,hbl,hcs⟩
         . omega
         have hdj:cs[i2]?=some (cs[i2]'(by omega)):=List.getElem?_eq_getElem (by omega);generalize cs[i2]'(by omega)=x at hdj;have hal:=jL (p:=wrB j) hdj;have hil:=cE hdj;obtain ⟨v0,v1,hv0,hv1,hrv⟩:=hcs i2 x hdj;obtain ⟨rfl,hrv'⟩:=eI hrv;obtain ⟨av,cv,rfl⟩:=az hrv';have p0:=(hs.cell (p:=⟨b,off+i2*2,none⟩) hbl).trans hv0;have p1:=(hs.cell (p:=⟨b,off+i2*2+1,none⟩) hbl).trans hv1;have r0:=hrv'.below hs;obtain ⟨x0,x1⟩:=x;simp only at p0 p1 r0 hil
         have HT:=aa ht;clear hcs hdj hv0 hv1 hrv hrv' ht;have hB:Below wr.heap.size wr (wr.alloc (.cells #[.int .i64 x0,.slice av x1.length cv] 171)):=(Below.refl _ _).alloc (Nat.le_refl _) _;have s0:(wr.alloc (.cells #[.int .i64 x0,.slice av x1.length cv] 171)).cell? ⟨wr.heap.size,1,none⟩=some (.slice av x1.length cv):=by
          rw [cell_of_row _ wr.heap.size 1 _ _ (0,0) (heap_alloc_new wr _)];rfl
         have zb:wr.heap.size<(wr.alloc (.cells #[.int .i64 x0,.slice av x1.length cv] 171)).heap.size:=by simp
         have HB:=aa hB;have S0:=aa s0;have ZB:=aa zb;clear hB s0 zb;by_cases hI:inB x0 0 ((j:Int)-1)=true
         . by_cases hx:da x1=true
           . have HD:=aa (hal.1 (by unfold wrB;simp only;rw [hI,hx];rfl) HT.out)
             clear hal;go_wp2_with fail
             refine (dG _ _ _ _ _ _ _ _).mono ?_
             rintro e w5 ⟨rfl,hb5⟩;have HB6:=aa (Below.andThen HB.out hb5);have s1:=(hb5.cell (p:=⟨wr.heap.size,1,none⟩) ZB.out).trans S0.out;clear hb5;go_wp2_with fail
             refine (bO _ _ _ _ x1 rfl (aP (r0.below HB6.out)).1 (by omega)).mono ?_
             rintro e w6 ⟨rfl,hs6⟩;go_wp2
             go_roundw
             case rel=>exact ⟨i2+1,by omega,by go_num,HD.out,(hs.trans (HB6.out.mono hs.size)).trans (hs6.below _)⟩
             case measure=>simp [intOf];omega
           have hx:da x1=false:=by simpa using hx
           have HN:=aa (hal.2 (by unfold wrB;simp only;rw [hI,hx];rfl));clear hal;go_wp2_with fail
           refine (dG _ _ _ _ _ _ _ _).mono ?_
           rintro e w5 ⟨rfl,hb5⟩;have HB6:=aa (Below.andThen HB.out hb5);have s1:=(hb5.cell (p:=⟨wr.heap.size,1,none⟩) ZB.out).trans S0.out;clear hb5;go_wp2_with fail
           refine (bO _ _ _ _ x1 rfl (aP (r0.below HB6.out)).1 (by omega)).mono ?_
           rintro e w6 ⟨rfl,hs6⟩;go_wp2
           go_ret
           exact ⟨ag (by unfold bp;rw [hss,HN.out,HS0.out];rfl),Below.andSame (Below.andThen hA (hs.trans (HB6.out.mono hs.size))) hs6⟩
         have hI:inB x0 0 ((j:Int)-1)=false:=by simpa using hI
         have HN:=aa (hal.2 (by unfold wrB;simp only;rw [hI];rfl));clear hal;go_wp2_with fail
         refine (dG _ _ _ _ _ _ _ _).mono ?_
         rintro e w5 ⟨rfl,hb5⟩;have HB6:=aa (Below.andThen HB.out hb5);clear hb5;go_wp2
         go_ret
         exact ⟨ag (by unfold bp;rw [hss,HN.out,HS0.out];rfl),Below.andThen hA (hs.trans (HB6.out.mono hs.size))⟩
       have e2:i2=n1:=by omega
       subst e2;rw [List.take_of_length_le (by omega)] at ht;have HS1:=aa ht;clear ht hi2 hin;have g3':=g3.below hs;go_wp2_with fail
       refine (sQ _ _ _ _ _ _ _ _ _ bs g3').mono ?_
       rintro e w5 ⟨rfl,hb5⟩;go_wp2
       go_ret
       exact ⟨ag (by unfold bp;rw [HI0.out,HI1.out,hss,HS1.out,HS0.out];simp),Below.andThen (Below.andThen hA hs) hb5⟩
     have hI1:decide (cs.length<=60)=false:=decide_eq_false (by omega);have HI1:=aa hI1;clear hI1;go_enter Tryz.func155,Tryz.ntmps155
     go_wp2
     go_ret
     exact ⟨ag (by unfold bp;rw [HI1.out];simp),hA⟩
   have hI0:inB (ss.length:Int) 1 20=false:=by unfold inB;rw [hl0];simp;omega
   have HI0:=aa hI0;clear hI0;go_enter Tryz.func155,Tryz.ntmps155
   go_wp2
   go_ret
   exact ⟨ag (by unfold bp;rw [HI0.out];simp),hA⟩
 have hI0:inB (ss.length:Int) 1 20=false:=by unfold inB;rw [hl0];simp;omega
 have HI0:=aa hI0;clear hI0;go_enter Tryz.func155,Tryz.ntmps155
 go_wp2
 go_ret
 exact ⟨ag (by unfold bp;rw [HI0.out];simp),hA⟩
def gU (ss:List (List Int)) (cs:List (Int×List Int)) (f:Bool) (bs:List Int):List (List Int):=if (bp ss cs bs&&!f)=true then dr ss cs else ss
def iK (ss:List (List Int)) (cs:List (Int×List Int)) (f:Bool) (bs:List Int):List (Int×List Int):=if (bp ss cs bs&&!f)=true then [] else cs
theorem bS {w:World} {E:TypeId} {lo hi:Nat} {v0 v1 v3:Value} {f:Bool} {d:(bR E).D} (h:(bR E).Own w lo hi [v0,v1,.bool f,v3] d):∃a0 l0 c0 a1 l1 c1 a3 l3 c3,v0=.slice a0 l0 c0/\v1=.slice a1 l1 c1/\v3=.slice a3 l3 c3:=by
 obtain ⟨a0,c0,a1,c1,a3,c3,h0,h1,_,h3,_⟩:=oO h.rd;exact ⟨a0,_,c0,a1,_,c1,a3,_,c3,h0,h1,h3⟩
theorem kr (w:World) (E:TypeId) (a0 a1 a3:Option Addr) (n0 c0 n1 c1 n3 c3:Nat) (ss:List (List Int)) (cs:List (Int×List Int)) (f:Bool) (bs:List Int) (h0:aT.Rd w [.slice a0 n0 c0] ss) (h1:(aU E).Rd w [.slice a1 n1 c1] cs) (h3:aA.Rd w [.slice a3 n3 c3] bs) (hw:aQ (ss,cs,f,bs)<=2097152):
 Calls Tryz.prog 261 #[.agg #[.slice a0 n0 c0,.slice a1 n1 c1,.bool f,.slice a3 n3 c3]] w fun e w'=>∃v0 v1 v3,e=.returned (.agg #[v0,v1,.bool f,v3])/\(bR 171).Own w' w.heap.size w'.heap.size [v0,v1,.bool f,v3] (gU ss cs f bs,iK ss cs f bs,f,bs)/\Below w.heap.size w w':=by
 obtain ⟨hl0,_,hm0⟩:=af h0;obtain ⟨hl1,_,hm1⟩:=af h1;obtain ⟨hl3,_,hm3⟩:=af h3;have hwc:bh cs<=2097152:=by unfold aQ at hw;simp only at hw;omega
 by_cases hM:bp ss cs bs=true
 . have hn20:n0<=20:=by have:=jM hM;omega
   have hks:=lJ hM;by_cases hf:f=true
   . subst hf
     have e1:gU ss cs true bs=ss:=by unfold gU;simp
     have e2:iK ss cs true bs=cs:=by unfold iK;simp
     rw [e1,e2];clear e1 e2;have hA:Below w.heap.size w ((w.alloc (.cells #[.slice a0 n0 c0,.slice a1 n1 c1,.bool true,.slice a3 n3 c3] 101)).alloc (.cells #[.slice none 0 0,.slice none 0 0,.bool false,.slice none 0 0] 101)):=((Below.refl _ _).alloc (Nat.le_refl _) _).alloc (by simp) _;have xm:Box ((w.alloc (.cells #[.slice a0 n0 c0,.slice a1 n1 c1,.bool true,.slice a3 n3 c3] 101)).alloc (.cells #[.slice none 0 0,.slice none 0 0,.bool false,.slice none 0 0] 101)) w.heap.size 101 #[.slice a0 n0 c0,.slice a1 n1 c1,.bool true,.slice a3 n3 c3]:=(Box.new w _ _).alloc _;have xr:Box ((w.alloc (.cells #[.slice a0 n0 c0,.slice a1 n1 c1,.bool true,.slice a3 n3 c3] 101)).alloc (.cells #[.slice none 0 0,.slice none 0 0,.bool false,.slice none 0 0] 101)) (w.heap.size+1) 101 #[.slice none 0 0,.slice none 0 0,.bool false,.slice none 0 0]:=by
      have:=Box.new (w.alloc (.cells #[.slice a0 n0 c0,.slice a1 n1 c1,.bool true,.slice a3 n3 c3] 101)) 101 #[.slice none 0 0,.slice none 0 0,.bool false,.slice none 0 0];rw [show (w.alloc (.cells #[.slice a0 n0 c0,.slice a1 n1 c1,.bool true,.slice a3 n3 c3] 101)).heap.size=w.heap.size+1 by simp] at this;exact this
     go_enter Tryz.func261,Tryz.ntmps261
     go_wp2_with fail
     generalize hW:(w.alloc (.cells #[.slice a0 n0 c0,.slice a1 n1 c1,.bool true,.slice a3 n3 c3] 101)).alloc (.cells #[.slice none 0 0,.slice none 0 0,.bool false,.slice none 0 0] 101)=W at hA xm xr ⊢;clear hW;have zr:=xr.lt;obtain ⟨q0,q1,q2,q3⟩:=xm.cells4;have XM:=aa xm;have XR:=aa xr;clear xm xr;refine (ce _ E _ _ _ _ _ _ _ _ _ ss cs true bs (h0.below hA) (h1.below hA) (h3.below hA) hw).mono ?_
     rintro e w1 ⟨rfl,b1⟩;have z1:=b1.size;have XM1:=aa (XM.out.below b1 (by omega));have XR1:=aa (XR.out.below b1 (by omega));have B1:=aa (hA.trans (b1.mono (by omega)));clear q0 q1 q2 q3 XM XR b1 hA;obtain ⟨q0,q1,q2,q3⟩:=XM1.out.cells4;go_wp2_with fail
     refine (ev _ E _ _ _ _ _ _ _ _ _ ss cs true bs (h0.below B1.out) (h1.below B1.out) (h3.below B1.out) hw).mono ?_
     intro e w2 hc;obtain ⟨b0,b1,b3,e0,e1,e3,m1,m2,rfl,o3,o0,o1,r1,r2,r3,bb⟩:=cQ hl0 hl1 hl3 hc;clear hc;have z2:=bb.size;clear q0 q1 q2 q3;obtain ⟨p0,p1,p2,p3⟩:=(XR1.out.below bb (by omega)).cells4;have fz:=(XR1.out.below bb (by omega)).frozen;have KB:=B1.out.trans (bb.mono (by omega));have hbt:But (w.heap.size+1) (w.heap.size+2) w2 ((((w2.setCell ⟨w.heap.size+1,0,none⟩ (.slice b0 n0 e0)).setCell ⟨w.heap.size+1,1,none⟩ (.slice b1 n1 e1)).setCell ⟨w.heap.size+1,2,none⟩ (.bool true)).setCell ⟨w.heap.size+1,3,none⟩ (.slice b3 n3 e3)):=
      (((But.setCell (by omega) (by omega) _).trans (But.setCell (by omega) (by omega) _)).trans (But.setCell (by omega) (by omega) _)).trans (But.setCell (by omega) (by omega) _)
     have z9:=hbt.size;have FIN:Hid ((bR 171).Own ((((w2.setCell ⟨w.heap.size+1,0,none⟩ (.slice b0 n0 e0)).setCell ⟨w.heap.size+1,1,none⟩ (.slice b1 n1 e1)).setCell ⟨w.heap.size+1,2,none⟩ (.bool true)).setCell ⟨w.heap.size+1,3,none⟩ (.slice b3 n3 e3)) w.heap.size ((((w2.setCell ⟨w.heap.size+1,0,none⟩ (.slice b0 n0 e0)).setCell ⟨w.heap.size+1,1,none⟩ (.slice b1 n1 e1)).setCell ⟨w.heap.size+1,2,none⟩ (.bool true)).setCell ⟨w.heap.size+1,3,none⟩ (.slice b3 n3 e3)).heap.size [.slice b0 n0 e0,.slice b1 n1 e1,.bool true,.slice b3 n3 e3] (ss,cs,true,bs)):=ch (o0.but hbt (by omega)) (o1.but hbt (by omega)) (o3.but hbt (by omega)) (by omega) (by omega) (by omega) (by omega) (by omega) (by omega);have FB:=aa (Below.andBut KB hbt (by omega));clear hbt KB bb o0 o1 o3;go_wp2
     refine bodyPost_ret (v:=.agg #[.slice b0 n0 e0,.slice b1 n1 e1,.bool true,.slice b3 n3 e3]) (by simp [results,Tryz.results261,go_sem,p0,p1,p2,p3]) rfl ?_
     exact ⟨_,_,_,rfl,FIN.out,FB.out⟩
   have hf:f=false:=by simpa using hf
   subst hf;have e1:gU ss cs false bs=dr ss cs:=by unfold gU;simp [hM]
   have e2:iK ss cs false bs=[]:=by unfold iK;simp [hM]
   rw [e1,e2];clear e1 e2;have hA:Below w.heap.size w ((w.alloc (.cells #[.slice a0 n0 c0,.slice a1 n1 c1,.bool false,.slice a3 n3 c3] 101)).alloc (.cells #[.slice none 0 0,.slice none 0 0,.bool false,.slice none 0 0] 101)):=((Below.refl _ _).alloc (Nat.le_refl _) _).alloc (by simp) _;have xm:Box ((w.alloc (.cells #[.slice a0 n0 c0,.slice a1 n1 c1,.bool false,.slice a3 n3 c3] 101)).alloc (.cells #[.slice none 0 0,.slice none 0 0,.bool false,.slice none 0 0] 101)) w.heap.size 101 #[.slice a0 n0 c0,.slice a1 n1 c1,.bool false,.slice a3 n3 c3]:=(Box.new w _ _).alloc _;have xr:Box ((w.alloc (.cells #[.slice a0 n0 c0,.slice a1 n1 c1,.bool false,.slice a3 n3 c3] 101)).alloc (.cells #[.slice none 0 0,.slice none 0 0,.bool false,.slice none 0 0] 101)) (w.heap.size+1) 101 #[.slice none 0 0,.slice none 0 0,.bool false,.slice none 0 0]:=by
    have:=Box.new (w.alloc (.cells #[.slice a0 n0 c0,.slice a1 n1 c1,.bool false,.slice a3 n3 c3] 101)) 101 #[.slice none 0 0,.slice none 0 0,.bool false,.slice none 0 0];rw [show (w.alloc (.cells #[.slice a0 n0 c0,.slice a1 n1 c1,.bool false,.slice a3 n3 c3] 101)).heap.size=w.heap.size+1 by simp] at this;exact this
   go_enter Tryz.func261,Tryz.ntmps261
   go_wp2_with fail
   generalize hW:(w.alloc (.cells #[.slice a0 n0 c0,.slice a1 n1 c1,.bool false,.slice a3 n3 c3] 101)).alloc (.cells #[.slice none 0 0,.slice none 0 0,.bool false,.slice none 0 0] 101)=W at hA xm xr ⊢;clear hW;have zr:=xr.lt;obtain ⟨q0,q1,q2,q3⟩:=xm.cells4;have XM:=aa xm;have XR:=aa xr;clear xm xr;refine (ce _ E _ _ _ _ _ _ _ _ _ ss cs false bs (h0.below hA) (h1.below hA) (h3.below hA) hw).mono ?_
   rintro e w1 ⟨rfl,b1⟩;have z1:=b1.size;have XM1:=aa (XM.out.below b1 (by omega));have XR1:=aa (XR.out.below b1 (by omega));have B1:=aa (hA.trans (b1.mono (by omega)));clear q0 q1 q2 q3 XM XR b1 hA;obtain ⟨q0,q1,q2,q3⟩:=XM1.out.cells4;go_wp2_with fail
   refine (qP _ E E _ _ _ _ _ _ _ _ _ _ _ _ ss cs false bs (h0.below B1.out) (h1.below B1.out) (h3.below B1.out) hw cs (h1.below B1.out) hwc hks hn20).mono ?_
   rintro e w2 ⟨v0,v1,v3,rfl,o2,bb⟩;obtain ⟨d0,l0,e0,d1,l1,e1,d3,l3,e3,hv0,hv1,hv3⟩:=bS o2;subst hv0 hv1 hv3;have z2:=bb.size;clear q0 q1 q2 q3;obtain ⟨p0,p1,p2,p3⟩:=(XR1.out.below bb (by omega)).cells4;have fz:=(XR1.out.below bb (by omega)).frozen;have KB:=B1.out.trans (bb.mono (by omega));have hbt:But (w.heap.size+1) (w.heap.size+2) w2 ((((w2.setCell ⟨w.heap.size+1,0,none⟩ (.slice d0 l0 e0)).setCell ⟨w.heap.size+1,1,none⟩ (.slice d1 l1 e1)).setCell ⟨w.heap.size+1,2,none⟩ (.bool false)).setCell ⟨w.heap.size+1,3,none⟩ (.slice d3 l3 e3)):=
    (((But.setCell (by omega) (by omega) _).trans (But.setCell (by omega) (by omega) _)).trans (But.setCell (by omega) (by omega) _)).trans (But.setCell (by omega) (by omega) _)
   have z9:=hbt.size;have FIN:Hid ((bR 171).Own ((((w2.setCell ⟨w.heap.size+1,0,none⟩ (.slice d0 l0 e0)).setCell ⟨w.heap.size+1,1,none⟩ (.slice d1 l1 e1)).setCell ⟨w.heap.size+1,2,none⟩ (.bool false)).setCell ⟨w.heap.size+1,3,none⟩ (.slice d3 l3 e3)) w.heap.size ((((w2.setCell ⟨w.heap.size+1,0,none⟩ (.slice d0 l0 e0)).setCell ⟨w.heap.size+1,1,none⟩ (.slice d1 l1 e1)).setCell ⟨w.heap.size+1,2,none⟩ (.bool false)).setCell ⟨w.heap.size+1,3,none⟩ (.slice d3 l3 e3)).heap.size [.slice d0 l0 e0,.slice d1 l1 e1,.bool false,.slice d3 l3 e3] (dr ss cs,[],false,bs)):=(o2.but hbt (.inr (by omega))).widen (by omega) z9;have FB:=aa (Below.andBut KB hbt (by omega));clear hbt KB bb o2;go_wp2
   refine bodyPost_ret (v:=.agg #[.slice d0 l0 e0,.slice d1 l1 e1,.bool false,.slice d3 l3 e3]) (by simp [results,Tryz.results261,go_sem,p0,p1,p2,p3]) rfl ?_
   exact ⟨_,_,_,rfl,FIN.out,FB.out⟩
 have hM:bp ss cs bs=false:=by simpa using hM
 have e1:gU ss cs f bs=ss:=by unfold gU;simp [hM]
 have e2:iK ss cs f bs=cs:=by unfold iK;simp [hM]
 rw [e1,e2];clear e1 e2;have hA:Below w.heap.size w ((w.alloc (.cells #[.slice a0 n0 c0,.slice a1 n1 c1,.bool f,.slice a3 n3 c3] 101)).alloc (.cells #[.slice none 0 0,.slice none 0 0,.bool false,.slice none 0 0] 101)):=((Below.refl _ _).alloc (Nat.le_refl _) _).alloc (by simp) _;have xm:Box ((w.alloc (.cells #[.slice a0 n0 c0,.slice a1 n1 c1,.bool f,.slice a3 n3 c3] 101)).alloc (.cells #[.slice none 0 0,.slice none 0 0,.bool false,.slice none 0 0] 101)) w.heap.size 101 #[.slice a0 n0 c0,.slice a1 n1 c1,.bool f,.slice a3 n3 c3]:=(Box.new w _ _).alloc _;have xr:Box ((w.alloc (.cells #[.slice a0 n0 c0,.slice a1 n1 c1,.bool f,.slice a3 n3 c3] 101)).alloc (.cells #[.slice none 0 0,.slice none 0 0,.bool false,.slice none 0 0] 101)) (w.heap.size+1) 101 #[.slice none 0 0,.slice none 0 0,.bool false,.slice none 0 0]:=by
  have:=Box.new (w.alloc (.cells #[.slice a0 n0 c0,.slice a1 n1 c1,.bool f,.slice a3 n3 c3] 101)) 101 #[.slice none 0 0,.slice none 0 0,.bool false,.slice none 0 0];rw [show (w.alloc (.cells #[.slice a0 n0 c0,.slice a1 n1 c1,.bool f,.slice a3 n3 c3] 101)).heap.size=w.heap.size+1 by simp] at this;exact this
 go_enter Tryz.func261,Tryz.ntmps261
 go_wp2_with fail
 generalize hW:(w.alloc (.cells #[.slice a0 n0 c0,.slice a1 n1 c1,.bool f,.slice a3 n3 c3] 101)).alloc (.cells #[.slice none 0 0,.slice none 0 0,.bool false,.slice none 0 0] 101)=W at hA xm xr ⊢;clear hW;have zr:=xr.lt;obtain ⟨q0,q1,q2,q3⟩:=xm.cells4;have XM:=aa xm;have XR:=aa xr;clear xm xr;refine (ce _ E _ _ _ _ _ _ _ _ _ ss cs f bs (h0.below hA) (h1.below hA) (h3.below hA) hw).mono ?_
 rintro e w1 ⟨rfl,b1⟩;have z1:=b1.size;have XM1:=aa (XM.out.below b1 (by omega));have XR1:=aa (XR.out.below b1 (by omega));have B1:=aa (hA.trans (b1.mono (by omega)));clear q0 q1 q2 q3 XM XR b1 hA;obtain ⟨q0,q1,q2,q3⟩:=XM1.out.cells4;go_wp2_with fail
 refine (ev _ E _ _ _ _ _ _ _ _ _ ss cs f bs (h0.below B1.out) (h1.below B1.out) (h3.below B1.out) hw).mono ?_
 intro e w2 hc;obtain ⟨b0,b1,b3,e0,e1,e3,m1,m2,rfl,o3,o0,o1,r1,r2,r3,bb⟩:=cQ hl0 hl1 hl3 hc;clear hc;have z2:=bb.size;clear q0 q1 q2 q3;obtain ⟨p0,p1,p2,p3⟩:=(XR1.out.below bb (by omega)).cells4;have fz:=(XR1.out.below bb (by omega)).frozen;have KB:=B1.out.trans (bb.mono (by omega));have hbt:But (w.heap.size+1) (w.heap.size+2) w2 ((((w2.setCell ⟨w.heap.size+1,0,none⟩ (.slice b0 n0 e0)).setCell ⟨w.heap.size+1,1,none⟩ (.slice b1 n1 e1)).setCell ⟨w.heap.size+1,2,none⟩ (.bool f)).setCell ⟨w.heap.size+1,3,none⟩ (.slice b3 n3 e3)):=
  (((But.setCell (by omega) (by omega) _).trans (But.setCell (by omega) (by omega) _)).trans (But.setCell (by omega) (by omega) _)).trans (But.setCell (by omega) (by omega) _)
 have z9:=hbt.size;have FIN:Hid ((bR 171).Own ((((w2.setCell ⟨w.heap.size+1,0,none⟩ (.slice b0 n0 e0)).setCell ⟨w.heap.size+1,1,none⟩ (.slice b1 n1 e1)).setCell ⟨w.heap.size+1,2,none⟩ (.bool f)).setCell ⟨w.heap.size+1,3,none⟩ (.slice b3 n3 e3)) w.heap.size ((((w2.setCell ⟨w.heap.size+1,0,none⟩ (.slice b0 n0 e0)).setCell ⟨w.heap.size+1,1,none⟩ (.slice b1 n1 e1)).setCell ⟨w.heap.size+1,2,none⟩ (.bool f)).setCell ⟨w.heap.size+1,3,none⟩ (.slice b3 n3 e3)).heap.size [.slice b0 n0 e0,.slice b1 n1 e1,.bool f,.slice b3 n3 e3] (ss,cs,f,bs)):=ch (o0.but hbt (by omega)) (o1.but hbt (by omega)) (o3.but hbt (by omega)) (by omega) (by omega) (by omega) (by omega) (by omega) (by omega);have FB:=aa (Below.andBut KB hbt (by omega));clear hbt KB bb o0 o1 o3;go_wp2
 refine bodyPost_ret (v:=.agg #[.slice b0 n0 e0,.slice b1 n1 e1,.bool f,.slice b3 n3 e3]) (by simp [results,Tryz.results261,go_sem,p0,p1,p2,p3]) rfl ?_
 exact ⟨_,_,_,rfl,FIN.out,FB.out⟩
theorem lK {w:World} {v:Value} {zs:List Int} {f:List Nat} (h:aA.ow w [v] zs f):(v=.slice none 0 0/\zs=[]/\f=[])∨∃g cap,v=.slice (some ⟨g,0,none⟩) zs.length cap/\f=[g]/\Go.Proofs.YtejeekndbnpmoaaGreat.Own .i64 3 w g (g+1) v zs:=by
 rcases h with ⟨h1,h2,h3⟩|⟨b,cap,cur,fps,h1,h2,h3,h4,h5,h6,h7,h8⟩
 . exact .inl ⟨by simpa using h1,h2,h3⟩
 have hv:v=.slice (some ⟨b,0,none⟩) zs.length cap:=by simpa using h1
 have hfl:fps.flatten=[]:=by
  rw [List.flatten_eq_nil_iff];intro f' hf';obtain ⟨i,hi⟩:=List.mem_iff_getElem?.1 hf';have hil:i<zs.length:=by rw [←h7];exact (List.getElem?_eq_some_iff.1 hi).1
  obtain ⟨f2,hf2,_,h10⟩:=h8 i _ (List.getElem?_eq_getElem hil);rw [hi] at hf2;simp at hf2
  rw [hf2];exact h10
 have h5':cur.size=cap*1:=h5;refine .inr ⟨b,cap,hv,by rw [h6,hfl],⟨by simp,.inr ⟨b,cap,cur,hv,Nat.le_refl _,h4,h2,by unfold maxLen;exact h3,h5',?_⟩⟩,fun g hg=>by rw [hv] at hg;simp [Value.ownBlock] at hg;omega⟩
 apply List.ext_getElem?
 intro i;rw [List.getElem?_take,List.getElem?_map];by_cases hi:i<zs.length
 . obtain ⟨f2,_,h9,_⟩:=h8 i _ (List.getElem?_eq_getElem hi)
   have h9':(cur.toList.drop (i*1)).take 1=[.int .i64 zs[i]]:=h9;have:((cur.toList.drop (i*1)).take 1)[0]?=some (.int .i64 zs[i]):=by rw [h9'];rfl
   rw [List.getElem?_take,if_pos (by omega),List.getElem?_drop] at this;rw [if_pos (by omega),List.getElem?_eq_getElem hi];simpa using this
 rw [if_neg (by omega),List.getElem?_eq_none (by omega)];rfl
def cO (zs:List Int) (n:Int):List Int:=zs.filter fun x=>decide (x≠n)
theorem nV {zs:List Int} {n:Int} (h:∀x∈zs,x≠n):cO zs n=zs:=by
 unfold cO;rw [List.filter_eq_self];intro x hx;simp [h x hx]
theorem gV (zs:List Int) (x n:Int):cO (zs++[x]) n=if x=n then cO zs n else cO zs n++[x]:=by
 unfold cO;rw [List.filter_append];by_cases h:x=n<;>simp [h]
theorem kT (zs:List Int) (n:Int):(cO zs n).length<=zs.length:=List.length_filter_le _ _
theorem iP {w:World} {g n cap:Nat} {zs:List Int} (h:Own .i64 3 w g (g+1) (.slice (some ⟨g,0,none⟩) n cap) zs):aA.Own w g (g+1) [.slice (some ⟨g,0,none⟩) n cap] zs:=by
 obtain ⟨fp,m1,m2⟩:=jh h.1;exact m1.own (fun b hb=>by
  have:=(m2 b hb).1;simp [Value.ownBlock] at this
  omega)
theorem Own.zeros {g n cap:Nat}:∀(k i:Nat) (w:World) (L:List Int),Own .i64 3 w g (g+1) (.slice (some ⟨g,0,none⟩) n cap) L->i+k<=n->∃L',Own .i64 3 (w.setCells g i (List.replicate k (.int .i64 0))) g (g+1) (.slice (some ⟨g,0,none⟩) n cap) L'/\L'.take i=L.take i/\But g (g+1) w (w.setCells g i (List.replicate k (.int .i64 0)))
 | 0,i,w,L,h,_=>⟨L,h,rfl,But.refl _ _ _⟩
 | k+1,i,w,L,h,hk=>by
  obtain ⟨_,_,h1,h2⟩:=h.store i (by omega) 0;obtain ⟨L',h3,h4,h5⟩:=Own.zeros k (i+1) _ _ h1 (by omega);refine ⟨L',h3,?_,h2.trans h5⟩
  have:=congrArg (List.take i) h4;rw [List.take_take,List.take_take,Nat.min_eq_left (by omega)] at this;rw [this];apply List.ext_getElem?
  intro m;rw [List.getElem?_take,List.getElem?_take];by_cases hm:m<i
  . rw [if_pos hm,if_pos hm,List.getElem?_set_ne (by omega)]
  rw [if_neg hm,if_neg hm]
theorem Own.cut {w:World} {g n cap i:Nat} {L:List Int} (h:Own .i64 3 w g (g+1) (.slice (some ⟨g,0,none⟩) n cap) L) (hi:i<=n):Own .i64 3 w g (g+1) (.slice (some ⟨g,0,none⟩) i cap) (L.take i):=by
 have hl:=h.length;obtain ⟨h1,h2⟩:=h;refine ⟨⟨by simp,?_⟩,fun b hb=>by simp [Value.ownBlock] at hb;omega⟩
 rcases h1.2 with ⟨hv,_⟩|⟨g',cap',cur,hv,hb,hg,hnc,hcm,hcs,ht⟩
 . simp at hv
 simp only [Value.slice.injEq,Option.some.injEq,Addr.mk.injEq,and_true] at hv
 obtain ⟨rfl,hv2,rfl⟩:=hv;refine .inr ⟨g,cap,cur,by rw [List.length_take,Nat.min_eq_left (by omega)],hb,hg,by rw [List.length_take];omega,hcm,hcs,?_⟩
 rw [List.length_take,Nat.min_eq_left (by omega),List.map_take,←ht,List.take_take,hl];congr 1
 omega
theorem sl (w:World) (b n:Int) (B:Nat) (hc:w.cell? ⟨B,0,none⟩=some (.int .i64 n)):
 Calls Tryz.prog 273 #[.int .i64 b,.pointer (some ⟨B,0,none⟩)] w fun e w'=>e=.returned (.bool (decide (b=n)))/\aN w w':=by
 go_enter Tryz.func273,Tryz.ntmps273
 go_wp2
 go_ret
 exact ⟨ag (by by_cases h:b=n<;>simp [h]),aN.refl _⟩
theorem nl (w:World) (a:Option Addr) (len cap:Nat) (zs:List Int) (n:Int) (B:Nat) (hc:w.cell? ⟨B,0,none⟩=some (.int .i64 n)) (hz:zs.length=len) (hr:aK .i64 w a zs) (hlen:len<=2097152):
 Calls Tryz.prog 268 #[.slice a len cap,.func (Fn.func 273) #[] #[.pointer (some ⟨B,0,none⟩)]] w fun e w'=>((e=.returned (.int .i64 (-1))/\∀x∈zs,x≠n)∨∃j,j<len/\e=.returned (.int .i64 j)/\zs[j]?=some n/\∀x∈zs.take j,x≠n)/\aN w w':=by
 go_enter Tryz.func268,Tryz.ntmps268
 go_wp2
 go_loopw [8] (fun i wr=>∃j:Nat,j<=len/\i=.int .i64 j/\(∀x∈zs.take j,x≠n)/\aN w wr) (fun i _=>len-(intOf i).toNat)
 case atStart=>exact ⟨0,Nat.zero_le _,rfl,by simp,aN.refl _⟩
 obtain ⟨j,hj,rfl,ht,hs⟩:=hrel;by_cases hlt:j<len
 . rcases hr.cases with h0|⟨b,off,rfl,hbl,hcz⟩
   . omega
   have hc1:=(hs.cell _).trans (hcz j (by omega));have hx:zs[j]?=some (zs.getD j 0):=by rw [List.getD_eq_getElem?_getD,List.getElem?_eq_getElem (by omega)];rfl
   have htk:zs.take (j+1)=zs.take j++[zs.getD j 0]:=by rw [List.take_add_one,hx];rfl
   generalize zs.getD j 0=x at hc1 hx htk;have hcc:=(hs.cell ⟨B,0,none⟩).trans hc;have HT:=aa ht;have HTK:=aa htk;have HX:=aa hx;clear hcz ht htk hx;go_wp2_with fail
   refine (sl _ _ n B hcc).mono ?_
   rintro e w1 ⟨rfl,hs1⟩;by_cases hxn:x=n
   . subst hxn
     have hd:decide (x=x)=true:=by simp
     go_wp2
     go_ret
     exact ⟨.inr ⟨j,hlt,rfl,HX.out,HT.out⟩,hs.trans hs1⟩
   have hd:decide (x=n)=false:=by simp [hxn]
   go_wp2
   go_roundw
   case rel=>exact ⟨j+1,by omega,by go_num,by
    rw [HTK.out];intro y hy;rcases List.mem_append.1 hy with hy|hy
    . exact HT.out y hy
    simp at hy
    rw [hy];exact hxn,hs.trans hs1⟩
   case measure=>simp [intOf];omega
 go_wp2
 go_ret
 have e:j=len:=by omega
 subst e;rw [List.take_of_length_le (by omega)] at ht;exact ⟨.inl ⟨rfl,ht⟩,hs⟩
theorem lM (w:World) (lo hi:Nat) (a:Option Addr) (len cap:Nat) (zs:List Int) (n:Int) (B:Nat) (h:aA.Own w lo hi [.slice a len cap] zs) (hc:w.cell? ⟨B,0,none⟩=some (.int .i64 n)) (hB:B<lo∨hi<=B) (hlen:len<=2097152):
 Calls Tryz.prog 272 #[.slice a len cap,.func (Fn.func 273) #[] #[.pointer (some ⟨B,0,none⟩)]] w fun e w'=>∃a' c',e=.returned (.slice a' (cO zs n).length c')/\aA.Own w' lo hi [.slice a' (cO zs n).length c'] (cO zs n)/\But lo hi w w':=by
 obtain ⟨hr,hl,_,_⟩:=aP h.rd;go_enter Tryz.func272,Tryz.ntmps272
 go_wp2_with fail
 refine (nl _ _ _ _ zs n B hc hl hr hlen).mono ?_
 rintro e w1 ⟨hcase,hs1⟩;rcases hcase with ⟨rfl,hnone⟩|⟨i,hi1,rfl,hxi,hpre⟩
 . have HF:=aa (nV hnone)
   have H1:=aa (h.same hs1);have HB:=aa (But.of_below (lo:=lo) (hi:=hi) (hs1.below _));clear hnone;go_wp2
   go_ret
   exact ⟨a,cap,by rw [HF.out,hl];rfl,by rw [HF.out,hl];exact H1.out,HB.out⟩
 obtain ⟨g,hgl,hgh,rfl,ho⟩:∃g,lo<=g/\g<hi/\a=some ⟨g,0,none⟩/\Own .i64 3 w g (g+1) (.slice (some ⟨g,0,none⟩) len cap) zs:=by
  obtain ⟨fp,hm,hfr⟩:=h.mine;rcases lK hm.1 with ⟨hv,_,_⟩|⟨g,cap',hv,hf,ho⟩
  . simp at hv
    omega
  simp only [Value.slice.injEq] at hv
  obtain ⟨rfl,rfl,rfl⟩:=hv;have:=hfr g (by rw [hf];simp);exact ⟨g,this.1,this.2,rfl,ho⟩
 have hcap:len<=cap:=(af h.rd).2.1;have hcm:cap<=9223372036854775807:=(af h.rd).2.2;have hBs:B<w.heap.size:=by
  rcases Nat.lt_or_ge B w.heap.size with h'|h'
  . exact h'
  simp [World.cell?,Array.getElem?_eq_none h'] at hc
 have hBg:B≠g:=by omega
 have HST:Hid (zs.take i=cO (zs.take (i+1)) n):=by
  unfold Hid;rw [List.take_add_one,hxi];show _=cO (zs.take i++[n]) n
  rw [gV,if_pos rfl,nV hpre]
 have O1:=aa (ho.same hs1);have HB1:=aa (But.of_below (lo:=g) (hi:=g+1) (hs1.below _));clear hxi hpre ho hr;have hne:((i:Int)==-1)=false:=by simp
 have zr:∀w,(zeroValue 3).run Tryz.prog w=.ok (.int .i64 0) w:=fun w=>by kernel_rfl
 go_wp2
 go_loopw [5,6] (fun iv jv wr=>∃(j i:Nat) (L:List Int),j<=len/\jv=.int .i64 j/\iv=.int .i64 i/\i<j/\Own .i64 3 wr g (g+1) (.slice (some ⟨g,0,none⟩) len cap) L/\L.take i=cO (zs.take j) n/\L.drop j=zs.drop j/\But g (g+1) w wr) (fun _ jv _=>len-(intOf jv).toNat)
 case atStart=>exact ⟨i+1,i,zs,by omega,by go_num,rfl,by omega,O1.out,HST.out,rfl,HB1.out⟩
 obtain ⟨j,i,L,hj,rfl,rfl,hij,ho,ht,hd,hb⟩:=hrel;have hLl:=ho.length;by_cases hlt:j<len
 . have hx:zs[j]?=some (L.getD j 0):=by
    have h1:(L.drop j)[0]?=(zs.drop j)[0]?:=by rw [hd]
    rw [List.getElem?_drop,List.getElem?_drop,Nat.add_zero] at h1;rw [←h1,List.getD_eq_getElem?_getD,List.getElem?_eq_getElem (by omega)];rfl
   have htk:zs.take (j+1)=zs.take j++[L.getD j 0]:=by rw [List.take_add_one,hx];rfl
   have hcj:=(ho.store j hlt 0).1;have hdd:L.drop (j+1)=zs.drop (j+1):=by
    have:=congrArg (List.drop 1) hd;rw [List.drop_drop,List.drop_drop] at this;exact this
   have hLj:L[j]?=some (L.getD j 0):=by rw [List.getD_eq_getElem?_getD,List.getElem?_eq_getElem (by omega)];rfl
   generalize L.getD j 0=x at hx htk hcj hLj;have hcB:=(cW (hb.block B hBs (by omega)) 0).trans hc;obtain ⟨hci,hfi,hst,hbt⟩:=ho.store i (by omega) x;have hti:(L.set i x).take (i+1)=L.take i++[x]:=by
    rw [List.take_add_one,List.getElem?_set_self (by omega)];congr 1
    apply List.ext_getElem?
    intro m;rw [List.getElem?_take,List.getElem?_take];by_cases hm:m<i
    . rw [if_pos hm,if_pos hm,List.getElem?_set_ne (by omega)]
    rw [if_neg hm,if_neg hm]
   have hdi:(L.set i x).drop (j+1)=L.drop (j+1):=by
    apply List.ext_getElem?
    intro m;rw [List.getElem?_drop,List.getElem?_drop,List.getElem?_set_ne (by omega)]
   generalize L.getD i 0=y at hci;have HO:=aa ho;have HT:=aa ht;have HD:=aa hdd;have HTK:=aa htk;have HST2:=aa hst;have HBT:=aa hbt;have HTI:=aa hti;have HDI:=aa hdi;have HB:=aa hb;clear ho ht hd hdd htk hst hbt hti hdi hb hx hLj;go_wp2_with fail
   refine (sl _ _ n B hcB).mono ?_
   rintro e w2 ⟨rfl,hs2⟩;have hci2:=(hs2.cell _).trans hci;have hfi2:w2.frozen? ⟨g,i,none⟩=false:=by rw [←hfi];exact World.frozen?_of_block (by rw [hs2.heap])
   by_cases hxn:x=n
   . subst hxn
     have hdc:decide (x=x)=true:=by simp
     go_wp2
     go_roundw
     case rel=>exact ⟨j+1,i,L,by omega,by go_num,rfl,by omega,HO.out.same hs2,by rw [HTK.out,gV,if_pos rfl];exact HT.out,HD.out,HB.out.trans (But.of_below (hs2.below _))⟩
     case measure=>simp [intOf];omega
   have hdc:decide (x=n)=false:=by simp [hxn]
   have OS:=aa ((HO.out.same hs2).store i (by omega) x);go_wp2
   go_roundw
   case rel=>exact ⟨j+1,i+1,L.set i x,by omega,by go_num,by go_num,by omega,OS.out.2.2.1,by rw [HTI.out,HTK.out,gV,if_neg hxn,HT.out],by rw [HDI.out];exact HD.out,(HB.out.trans (But.of_below (hs2.below _))).trans OS.out.2.2.2⟩
   case measure=>simp [intOf];omega
 have e:len=j:=by omega
 subst e;rw [List.take_of_length_le (l:=zs) (by omega)] at ht;have hil:i=(cO zs n).length:=by rw [←ht,List.length_take];omega
 have hclr:∀ty,(Builtin.clear_ #[31] ty #[.slice (some ⟨g,i,none⟩) (len-i) (cap-i)]).run Tryz.prog wr=.ok (.tuple #[]) (wr.setCells g i (List.replicate (len-i) (.int .i64 0))):=fun ty=>
  Go.Lib.run_clear_slice wr 31 3 ty (.int .i64 0) Tryz.underlying31 zr rfl rfl g i (len-i) (cap-i) (by omega) (fun m hm=>by rw [(ho.store (i+m) (by omega) 0).1];rfl) (fun m hm=>(ho.store (i+m) (by omega) 0).2.1)
 obtain ⟨L',o1,t1,b1⟩:=Own.zeros (len-i) i wr L ho (by omega);have o2:=o1.cut (i:=i) (by omega);rw [t1,ht] at o2;have HF:=aa ((iP o2).widen (lo':=lo) (hi':=hi) (by omega) (by omega));have HBF:=aa (hb.trans b1);have HIL:=aa hil;have k1:(0:Int)<=(i:Int):=by omega
 have k2:(i:Int)<=(len:Int):=by omega
 have k3:(len:Int)<=(cap:Int):=by omega
 clear o1 o2 t1 b1 ho ht hd hb hil;go_wp2
 go_ret
 exact ⟨some ⟨g,0,none⟩,cap,by rw [←HIL.out];rfl,by rw [←HIL.out];exact HF.out,⟨HBF.out.os,HBF.out.tape,HBF.out.output,HBF.out.size,fun k hk ho=>HBF.out.block k hk (by omega)⟩⟩
theorem dO {w V:World} {N R m1 m2 h:Nat} {v0 v1 v3:Value} {f:Bool} {ss:List (List Int)} {cs:List (Int×List Int)} {bs:List Int} (B:Below w.heap.size w V) (D:aA.Own V N m1 [v3] bs) (S:aT.Own V m1 m2 [v0] ss) (C:(aU 171).Own V m2 h [v1] cs) (r1:N<=m1) (r2:m1<=m2) (r3:m2<=h) (rh:h<=V.heap.size) (hR:R<N) (hw:w.heap.size<=R):
 (bR 171).Own ((((V.setCell ⟨R,0,none⟩ v0).setCell ⟨R,1,none⟩ v1).setCell ⟨R,2,none⟩ (.bool f)).setCell ⟨R,3,none⟩ v3) w.heap.size ((((V.setCell ⟨R,0,none⟩ v0).setCell ⟨R,1,none⟩ v1).setCell ⟨R,2,none⟩ (.bool f)).setCell ⟨R,3,none⟩ v3).heap.size [v0,v1,.bool f,v3] (ss,cs,f,bs)/\Below w.heap.size w ((((V.setCell ⟨R,0,none⟩ v0).setCell ⟨R,1,none⟩ v1).setCell ⟨R,2,none⟩ (.bool f)).setCell ⟨R,3,none⟩ v3):=by
 have hbt:But R (R+1) V ((((V.setCell ⟨R,0,none⟩ v0).setCell ⟨R,1,none⟩ v1).setCell ⟨R,2,none⟩ (.bool f)).setCell ⟨R,3,none⟩ v3):=(((But.setCell (by omega) (by omega) _).trans (But.setCell (by omega) (by omega) _)).trans (But.setCell (by omega) (by omega) _)).trans (But.setCell (by omega) (by omega) _);have z:=hbt.size;exact ⟨ch (S.but hbt (by omega)) (C.but hbt (by omega)) (D.but hbt (by omega)) (by omega) (by omega) (by omega) ⟨by omega,by omega⟩ ⟨by omega,by omega⟩ ⟨by omega,by omega⟩,Below.andBut B hbt hw⟩
end Go.Proofs.YtejeekndbnpmoaaGreat
