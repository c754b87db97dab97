/-
 The walks of both ReadSec (the program's and the specification's): what a sector reads as, in memory of its own. Condition: the disk weighs at most 2097152.
-/
import Derived.Test.YtfimpohbpccjaaaRowWordsSq8
import Derived.Test.YtfimpohbpccjaaaRowWordsSq9
import Derived.Test.YtfimpohbpccjaaaRowWordsSq3
import Derived.Test.YtfimpohbpccjaaaRowWordsSq2

set_option maxRecDepth 100000
set_option maxHeartbeats 8000000
set_option linter.unusedSimpArgs false

namespace Go.Proofs.Ytfimpohbpccjaaa
open Go.RowKit

def cg (x:aD):Nat:=cI x.1+bF x.2.1+1+x.2.2.2.length
def fS (k:Int) (x:aD):aD:=(dQ k x.1,di (k+(cI x.1:Int)) x.2.1,decide ((k+(cI x.1:Int)+(bF x.2.1:Int)) % 3=0),bk id (k+(cI x.1:Int)+(bF x.2.1:Int)+1) x.2.2.2.length)
def ee (k0:Int) (d:List aD):List aD:=du cg fS k0 d
def dA (d:List aD):Nat:=aE (d.map cg)
theorem fe (d:List aD):dA d<=az d:=by
 unfold dA az;induction d with
 | nil=>simp [aE]
 | cons x d ih=>
  have h1:cg x<=aB x+1:=by
   have:=Nat.le_of_eq (da x.2.1);unfold cg aB aw cI;omega
  have e1:aE ((x :: d).map cg)=cg x+aE (d.map cg):=by simp [aE]
  have e2:aE ((x :: d).map aB)=aB x+aE (d.map aB):=by simp [aE]
  rw [e1,e2,List.length_cons];omega
theorem fg (w:World) (a:Option Addr) (n cap:Nat) (d:List aD) (k0:Int) (fp:List Nat) (h:(aY 114 54).Mine w [.slice a n cap] d fp) (hw:az d<=2097152) (hk:0<=k0) (hk':k0+(az d:Int)<=2097153):
 Calls Try.prog 43 #[.slice a n cap,.int .i64 k0] w fun e w'=>e=.returned (.int .i64 (k0+(dA d:Int)))/\(aY 114 54).Mine w' [.slice a n cap] (ee k0 d) fp/\ax fp w w':=by
 obtain ⟨hl,hc,hm⟩:=af h.rd;have hmL:(ee k0 d).length=d.length:=cl _ _ _ _;have hnn:n<=2097152:=by unfold az at hw;omega
 have hwt:=fe d;go_enter Try.func43,Try.ntmps43
 go_wp2
 go_loopw [1,5] (fun kk i wr=>∃j:Nat,j<=n/\i=.int .i64 j/\kk=.int .i64 (k0+(aE ((d.map cg).take j):Int))/\(aY 114 54).Mine wr [.slice a n cap] ((ee k0 d).take j++d.drop j) fp/\ax fp w wr) (fun _ i _=>n-(intOf i).toNat)
 case atStart=>exact ⟨0,Nat.zero_le _,rfl,by simp [aE],by simpa using h,ax.refl _ _⟩
 obtain ⟨j,hj,rfl,rfl,ho,hb⟩:=hrel;by_cases hjn:j<n
 . have hdj:d[j]?=some (d[j]'(by omega)):=List.getElem?_eq_getElem (by omega)
   generalize d[j]'(by omega)=x at hdj;have hst:=aV (l:=d.map cg) (j:=j) (x:=cg x) (by rw [List.getElem?_map,hdj];rfl);have hle:=bq (l:=d.map cg) (j+1);have hin:=Nat.le_trans (bM hdj) hw;unfold dA at hwt;have HM:=ab (dd hmL (dv (c:=cg) (mk:=fS) (k:=k0) hdj));have hat:=dM (m:=ee k0 d) hmL hdj;have HW:=ab hst;generalize aE ((d.map cg).take j)=S at hst HM HW;obtain ⟨ss,cs,f,bs⟩:=x;have hcx:cg (ss,cs,f,bs)=cI ss+bF cs+1+bs.length:=rfl;have hin0:aw ss<=2097152:=by unfold aB at hin;simp only at hin;omega
   have hin1:aq cs<=2097152:=by unfold aB at hin;simp only at hin;omega
   have hin3:bs.length<=2097152:=by unfold aB at hin;simp only at hin;omega
   have hcw:=Nat.le_of_eq (da cs);have hcw':=Nat.le_of_eq (da cs).symm;have hS:k0+(S:Int)+(cI ss:Int)+(bF cs:Int)+1+(bs.length:Int)<=2097153:=by omega
   rcases ck ho with h0'|⟨g,rfl⟩
   . omega
   obtain ⟨cs1,f1,ow1,hgf,hgp,hf1,hcc,hfz,_,back⟩:=dt ho hat;have hcl:=(dP 114).rdLen ((dP 114).owRd ow1.1);obtain ⟨v0,v1,v2,v3,rfl⟩:∃v0 v1 v2 v3,cs1=[v0,v1,v2,v3]:=by
    match cs1,hcl with
    | [v0,v1,v2,v3],_=>exact ⟨v0,v1,v2,v3,rfl⟩
   obtain ⟨f0,g1,rfl,m0,ow2,d0⟩:=cN (t:=aM) (u:=bX (aP 114) (bX cQ aA)) (vs:=[v0]) (us:=[v1,v2,v3]) rfl ow1;obtain ⟨fc,g2,rfl,m1,ow3,d1⟩:=cN (t:=aP 114) (u:=bX cQ aA) (vs:=[v1]) (us:=[v2,v3]) rfl ow2;obtain ⟨fb,f3,rfl,⟨⟨hv2,hfb⟩,_⟩,m3,_⟩:=cN (t:=cQ) (u:=aA) (vs:=[v2]) (us:=[v3]) rfl ow3;simp at hv2
   subst hv2;subst hfb;rw [List.nil_append] at *;have hc0:wr.cell? ⟨g,j*4,none⟩=some v0:=hcc 0 (by show 0<4;omega);have hc1:wr.cell? ⟨g,j*4+1,none⟩=some v1:=hcc 1 (by show 1<4;omega);have hc2:wr.cell? ⟨g,j*4+2,none⟩=some (.bool f):=hcc 2 (by show 2<4;omega);have hc3:wr.cell? ⟨g,j*4+3,none⟩=some v3:=hcc 3 (by show 3<4;omega);obtain ⟨a0,e0,rfl⟩:=ak m0.rd;obtain ⟨a1,e1',rfl⟩:=ak m1.rd;obtain ⟨a3,e3,rfl⟩:=ak m3.rd;have hlt:=ho.lt;have ng0:g∉f0:=fun hm=>hgf (List.mem_append_left _ hm);have ngc:g∉fc:=fun hm=>hgf (List.mem_append_right _ (List.mem_append_left _ hm));have ng3:g∉f3:=fun hm=>hgf (List.mem_append_right _ (List.mem_append_right _ hm));have d0c:∀b∈fc,b∉f0:=fun b hb hb'=>d0 b hb' (List.mem_append_left _ hb);have d03:∀b∈f3,b∉f0:=fun b hb hb'=>d0 b hb' (List.mem_append_right _ hb);have dc3:∀b∈f3,b∉fc:=fun b hb hb'=>d1 b hb' hb;have hgl:g<wr.heap.size:=hlt g hgp;obtain ⟨cur,hcur,hcsz,hncap,_⟩:=dC (ho.own (lo:=0) (hi:=wr.heap.size) (fun b hb=>⟨Nat.zero_le _,ho.lt b hb⟩));have XB:Box wr g 54 cur:=hcur;have HBK:=ab back;have HLT:=ab hlt;have HF1:=ab hf1;have HFZ:=ab hfz;have M0:=ab m0;have M1:=ab m1;have M3:=ab m3;have DD:=ab (And.intro d0 d1);have HG:=ab hgf;have i1:(0:Int)<=(j:Int):=by omega
   have i2:(j:Int)<(n:Int):=by omega
   clear hcc back hcl ow1 ow2 ow3 hat hdj ho hst hlt hfz hf1 m0 m1 m3 d0 d1 hgf;have e1:(k0+(S:Int)+(cI ss:Int)+(bF cs:Int)).tmod 3=(k0+(S:Int)+(cI ss:Int)+(bF cs:Int)) % 3:=Int.tmod_eq_emod_of_nonneg (by omega);have HXB:=ab XB;have HC:=ab (And.intro hc0 (And.intro hc1 hc3));clear XB hcur;go_wp2_with fail
   refine (eH _ _ _ _ ss _ f0 M0.out hin0 (by omega) (by omega)).mono ?_
   rintro e w1 ⟨rfl,o1,t1⟩;have b1:=t1.block g hgl ng0;have kc1:=(ct b1 (j*4+1)).trans hc1;have kc2:=(ct b1 (j*4+2)).trans hc2;have kc3:=(ct b1 (j*4+3)).trans hc3;have X1:=ab (HXB.out.kept b1);have z1:=t1.size;have M1':=ab (M1.out.kept t1 d0c);have M3':=ab (M3.out.kept t1 d03);have O1:=ab o1;have T1:=ab t1;clear hc0 hc1 hc2 hc3 b1 o1 t1 M0 M1 M3 HXB;have hg1:g<w1.heap.size:=Nat.lt_of_lt_of_le hgl z1;go_wp2_with fail
   refine (fC _ _ _ _ cs _ fc M1'.out hin1 (by omega) (by omega)).mono ?_
   rintro e w2 ⟨rfl,o2,t2⟩;have b2:=t2.block g hg1 ngc;have lc2:=(ct b2 (j*4+2)).trans kc2;have lc3:=(ct b2 (j*4+3)).trans kc3;have x2:=X1.out.kept b2;have X2:=ab x2;have ff:=x2.frozen (j*4+2);have z2:=t2.size;have M3'':=ab (M3'.out.kept t2 dc3);have O1':=ab (O1.out.kept t2 (fun b hb hb'=>d0c b hb' hb));have O2:=ab o2;have T2:=ab t2;have T3:Hid (ax [g] w2 (w2.setCell ⟨g,j*4+2,none⟩ (.bool (decide ((k0+(S:Int)+(cI ss:Int)+(bF cs:Int)) % 3=0))))):=ax.setCell _ (by simp);have M3t:=ab (M3''.out.kept T3.out (fun b hb hb'=>ng3 (by simp at hb';exact hb'▸hb)));have O1t:=ab (O1'.out.kept T3.out (fun b hb hb'=>ng0 (by simp at hb';exact hb'▸hb)));have O2t:=ab (O2.out.kept T3.out (fun b hb hb'=>ngc (by simp at hb';exact hb'▸hb)));have X3:=ab (x2.set (j*4+2) (.bool (decide ((k0+(S:Int)+(cI ss:Int)+(bF cs:Int)) % 3=0))));clear kc1 kc2 kc3 b2 o2 t2 X1 M1' M3' M3'' O1 O1' O2 x2;have hg2:g<w2.heap.size:=Nat.lt_of_lt_of_le hg1 z2;go_wp2_with fail
   generalize hw3:w2.setCell ⟨g,j*4+2,none⟩ (.bool (decide ((k0+(S:Int)+(cI ss:Int)+(bF cs:Int)) % 3=0)))=w3 at T3 M3t O1t O2t X3 ⊢;clear hw3;refine (bT _ _ _ _ bs _ f3 M3t.out (by omega) (by omega) (by omega)).mono ?_
   rintro e w4 ⟨rfl,o3,t4⟩;have z3:=T3.out.size;have z4:=t4.size;have hg3:g<w3.heap.size:=Nat.lt_of_lt_of_le hg2 z3;have hO:=HBK.out w4 [.slice a0 ss.length e0,.slice a1 cs.length e1',.bool (decide ((k0+(S:Int)+(cI ss:Int)+(bF cs:Int)) % 3=0)),.slice a3 bs.length e3] (fS (k0+(S:Int)) (ss,cs,f,bs))
    (bI (t:=aM) (vs:=[_]) (us:=[_,_,_]) (O1t.out.kept t4 (fun b hb hb'=>d03 b hb' hb)) (bI (t:=aP 114) (vs:=[_]) (us:=[_,_]) (O2t.out.kept t4 (fun b hb hb'=>dc3 b hb' hb)) (bI (t:=cQ) (u:=aA) (vs:=[_]) (us:=[_]) (f1:=[]) ⟨⟨rfl,rfl⟩,by simp⟩ o3 (by simp)) DD.out.2) DD.out.1)
    (fun b hb hbf hbg=>by
     have n0:b∉f0:=fun hm=>hbf (List.mem_append_left _ hm);have nc:b∉fc:=fun hm=>hbf (List.mem_append_right _ (List.mem_append_left _ hm));have n3:b∉f3:=fun hm=>hbf (List.mem_append_right _ (List.mem_append_right _ hm));have l0:=HLT.out b hb;rw [t4.block b (by omega) n3,T3.out.block b (by omega) (by simpa using hbg),T2.out.block b (by omega) nc,T1.out.block b l0 n0])
    (by omega)
    (fun cur2 hcur2 hcs2 hnc2=>by
     have hX:=X3.out;have e2:cur2=cur:=by
      have h1:=X2.out;have h2:w2.heap[g]?=wr.heap[g]?:=by rw [T2.out.block g hg1 ngc,T1.out.block g hgl ng0]
      unfold Box at h1;rw [h2,hcur2] at h1;simpa using h1
     subst e2;refine ⟨_,(t4.block g hg3 ng3).trans hX,by simp,fun k=>?_⟩
     have hcs':cur2.size=cap*4:=hcs2;rw [Array.toList_setIfInBounds];obtain ⟨p0,p1,p3⟩:=HC.out;rw [cell_of_row wr g _ cur2 _ (0,0) hcur2] at p0 p1 p3;simp only [show (1+(1+(1+1)):Nat)=4 from rfl]
     by_cases k0':k=j*4
     . subst k0'
       rw [List.getElem?_set_ne (by omega),if_pos (by omega),Nat.sub_self,Array.getElem?_toList,p0];rfl
     by_cases k1:k=j*4+1
     . subst k1
       rw [List.getElem?_set_ne (by omega),if_pos (by omega),Nat.add_sub_cancel_left,Array.getElem?_toList,p1];rfl
     by_cases k2:k=j*4+2
     . subst k2
       rw [List.getElem?_set_self (by simp;omega),if_pos (by omega),Nat.add_sub_cancel_left];rfl
     by_cases k3:k=j*4+3
     . subst k3
       rw [List.getElem?_set_ne (by omega),if_pos (by omega),Nat.add_sub_cancel_left,Array.getElem?_toList,p3];rfl
     rw [List.getElem?_set_ne (by omega),if_neg (by omega)])
   rw [HM.out] at hO;have HO:=ab hO;have HB:=ab ((((hb.trans (T1.out.mono (fun b hm=>HF1.out b (List.mem_append_left _ hm)))).trans (T2.out.mono (fun b hm=>HF1.out b (List.mem_append_right _ (List.mem_append_left _ hm))))).trans (T3.out.mono (by simpa using hgp))).trans (t4.mono (fun b hm=>HF1.out b (List.mem_append_right _ (List.mem_append_right _ hm)))));clear hO o3 t4 HBK hb T1 T2 T3 X2 X3 O1t O2t M3t HLT HC;go_wp2
   go_roundw
   case rel=>exact ⟨j+1,by omega,by go_num,by rw [HW.out,hcx];go_num,HO.out,HB.out⟩
   case measure=>simp [intOf];omega
 go_wp2
 go_ret
 have e:j=n:=by omega
 subst e;have ht:(d.map cg).take j=d.map cg:=List.take_of_length_le (by simp;omega);rw [List.take_of_length_le (by omega),List.drop_of_length_le (by omega),List.append_nil] at ho;exact ⟨ar (by rw [ht];rfl),ho,hb⟩
theorem dJ (w:World) (a:Option Addr) (len cap:Nat) (zs:List Int) (n:Int) (hz:zs.length=len) (hr:aL .i64 w a zs) (hlen:len<=2097152):
 Calls Try.prog 126 #[.slice a len cap,.int .i64 n] w fun e w'=>∃r:Int,e=.returned (.int .i64 r)/\decide (0<=r)=inL zs n/\aG w w':=by
 go_enter Try.func126,Try.ntmps126
 go_wp2
 go_loop [8] (fun i=>∃j:Nat,j<=len/\i=.int .i64 j/\inL (zs.take j) n=false) (fun i=>len-(intOf i).toNat)
 case atStart=>exact ⟨0,Nat.zero_le _,rfl,rfl⟩
 obtain ⟨j,hj,rfl,ht⟩:=hrel;by_cases hlt:j<len
 . rcases hr.cases with h0|⟨b,off,rfl,hbl,hc⟩
   . omega
   have hc1:=hc j (by omega);have hd:=eX (zs:=zs) (n:=n) (j:=j) (by omega) rfl;generalize zs.getD j 0=x at hc1 hd;have HT:=ab ht;clear hc ht;by_cases hx:x=n
   . have HD:=ab (hd.1 hx)
     subst hx;clear hd;go_wp2
     go_ret
     exact ⟨_,rfl,by rw [HD.out];simp,aG.refl _⟩
   have HD:=ab (hd.2 hx HT.out);have hx':¬n=x:=fun e=>hx e.symm;clear hd;go_wp2
   go_round
   case rel=>exact ⟨j+1,by omega,by go_num,HD.out⟩
   case measure=>simp [intOf];omega
 go_wp2
 go_ret
 have e:j=len:=by omega
 subst e;rw [List.take_of_length_le (by omega)] at ht;exact ⟨_,rfl,by rw [ht];rfl,aG.refl _⟩
theorem cF (w:World) (a:Option Addr) (len cap:Nat) (zs:List Int) (n:Int) (hz:zs.length=len) (hr:aL .i64 w a zs) (hlen:len<=2097152):
 Calls Try.prog 123 #[.slice a len cap,.int .i64 n] w fun e w'=>e=.returned (.bool (inL zs n))/\aG w w':=by
 go_enter Try.func123,Try.ntmps123
 go_wp2_with fail
 refine (dJ _ _ _ _ zs n hz hr hlen).mono ?_
 rintro e w1 ⟨r,rfl,hr1,hs1⟩;go_wp2
 go_ret
 exact ⟨ac (by rw [←hr1]),hs1⟩
theorem dK (w:World) (E:TypeId) (a0 a1 a3:Option Addr) (n0 c0 n1 c1 n3 c3:Nat) (ss:List (List Int)) (cs:List (Int×List Int)) (f:Bool) (bs:List Int) (n:Int) (h0:aM.Rd w [.slice a0 n0 c0] ss) (h1:(aP E).Rd w [.slice a1 n1 c1] cs) (h3:aA.Rd w [.slice a3 n3 c3] bs) (hw:aB (ss,cs,f,bs)<=2097152):
 Calls Try.prog 122 #[.agg #[.slice a0 n0 c0,.slice a1 n1 c1,.bool f,.slice a3 n3 c3],.int .i64 n] w fun e w'=>∃a' l c',e=.returned (.tuple #[.slice a' l c',.bool (aI ss cs f bs n)])/\aA.Own w' w.heap.size w'.heap.size [.slice a' l c'] (aN ss cs f bs n)/\Below w.heap.size w w':=by
 obtain ⟨hl0,_,hm0⟩:=af h0;obtain ⟨hl1,_,hm1⟩:=af h1;obtain ⟨hl3,_,hm3⟩:=af h3;have hw3:n3<=2097152:=by unfold aB at hw;simp only at hw;omega
 have hw0:aw ss<=2097152:=by unfold aB at hw;simp only at hw;omega
 have hw1:aq cs<=2097152:=by unfold aB at hw;simp only at hw;omega
 have hn0:n0<=2097152:=by unfold aw at hw0;omega
 have hn1:n1<=2097152:=by unfold aq at hw1;omega
 have hA:Below w.heap.size w (w.alloc (.cells #[.slice a0 n0 c0,.slice a1 n1 c1,.bool f,.slice a3 n3 c3] 54)):=(Below.refl _ _).alloc (Nat.le_refl _) _;have xm:=Box.new w 54 #[.slice a0 n0 c0,.slice a1 n1 c1,.bool f,.slice a3 n3 c3];have g0:=h0.below hA;have g1:=h1.below hA;have g3:=h3.below hA;obtain ⟨q0,q1,q2,q3⟩:=xm.cells4;have zm:=xm.lt;have fin:∀w1,Below w.heap.size w w1->aA.Own (w1.alloc (.cells #[] 3)) w.heap.size (w1.alloc (.cells #[] 3)).heap.size [.slice (some ⟨w1.heap.size,0,none⟩) 0 0] []/\Below w.heap.size w (w1.alloc (.cells #[] 3)):=by
  intro w1 hb;have hs:=hb.size;exact ⟨(aH (aS.lit .i64 3 w1 [] 0 #[] rfl rfl (by unfold maxLen;omega))).widen hs (Nat.le_refl _),hb.alloc hb.size _⟩
 by_cases hM:bJ ss cs bs=true
 . by_cases hf:f=true
   . subst hf
     have hro:aI ss cs true bs n=false:=by unfold aI;rw [hM];rfl
     have hrd:aN ss cs true bs n=[]:=by unfold aN;rw [hro];rfl
     rw [hro,hrd];clear hro hrd;go_enter Try.func122,Try.ntmps122
     go_wp2_with fail
     generalize hW:w.alloc (.cells #[.slice a0 n0 c0,.slice a1 n1 c1,.bool true,.slice a3 n3 c3] 54)=W at hA g0 g1 g3 q0 q1 q2 q3 zm ⊢;clear hW xm;refine (aK _ E _ _ _ _ _ _ _ _ _ ss cs true bs g0 g1 g3 hw).mono ?_
     rintro e w1 ⟨rfl,b1⟩;have r0:=(b1.cell (p:=⟨w.heap.size,0,none⟩) zm).trans q0;have r1:=(b1.cell (p:=⟨w.heap.size,1,none⟩) zm).trans q1;have r2:=(b1.cell (p:=⟨w.heap.size,2,none⟩) zm).trans q2;have r3:=(b1.cell (p:=⟨w.heap.size,3,none⟩) zm).trans q3;have B1:=Below.andThen hA b1;have z1:=Nat.lt_of_lt_of_le zm b1.size;clear q0 q1 q2 q3;go_wp2
     go_ret2
     exact ⟨_,_,_,rfl,(fin _ B1).1,(fin _ B1).2⟩
   have hf:f=false:=by simpa using hf
   subst hf;by_cases hI:inB n 0 ((n0:Int)-1)=true
   . by_cases hB:inL bs n=true
     . have hro:aI ss cs false bs n=false:=by unfold aI;rw [hM,hl0,hI,hB];rfl
       have hrd:aN ss cs false bs n=[]:=by unfold aN;rw [hro];rfl
       rw [hro,hrd];clear hro hrd;go_enter Try.func122,Try.ntmps122
       go_wp2_with fail
       generalize hW:w.alloc (.cells #[.slice a0 n0 c0,.slice a1 n1 c1,.bool false,.slice a3 n3 c3] 54)=W at hA g0 g1 g3 q0 q1 q2 q3 zm ⊢;clear hW xm;refine (aK _ E _ _ _ _ _ _ _ _ _ ss cs false bs g0 g1 g3 hw).mono ?_
       rintro e w1 ⟨rfl,b1⟩;have r0:=(b1.cell (p:=⟨w.heap.size,0,none⟩) zm).trans q0;have r1:=(b1.cell (p:=⟨w.heap.size,1,none⟩) zm).trans q1;have r2:=(b1.cell (p:=⟨w.heap.size,2,none⟩) zm).trans q2;have r3:=(b1.cell (p:=⟨w.heap.size,3,none⟩) zm).trans q3;have B1:=Below.andThen hA b1;have z1:=Nat.lt_of_lt_of_le zm b1.size;clear q0 q1 q2 q3;go_wp2_with fail
       refine (bh _ _ _ _ _ _ _ _).mono ?_
       rintro e w2 ⟨rfl,b2⟩;have t0:=(b2.cell (p:=⟨w.heap.size,0,none⟩) z1).trans r0;have t1:=(b2.cell (p:=⟨w.heap.size,1,none⟩) z1).trans r1;have t3:=(b2.cell (p:=⟨w.heap.size,3,none⟩) z1).trans r3;have B2:=Below.andThen B1 b2;have z2:=Nat.lt_of_lt_of_le z1 b2.size;have k3:=g3.below (Below.andThen b1 b2);clear r0 r1 r2 r3;go_wp2_with fail
       refine (cF _ _ _ _ bs _ hl3 (ap k3).1 hw3).mono ?_
       rintro e w3 ⟨rfl,s3⟩;have B3:=Below.andSame B2 s3;go_wp2
       go_ret2
       exact ⟨_,_,_,rfl,(fin _ B3).1,(fin _ B3).2⟩
     have hB:inL bs n=false:=by simpa using hB
     have hro:aI ss cs false bs n=true:=by unfold aI;rw [hM,hl0,hI,hB];rfl
     have hrd:aN ss cs false bs n=(bA cs n).getD (dm ss n):=by unfold aN;rw [hro];rfl
     rw [hro,hrd];clear hro hrd;have hI':0<=n/\n<=(n0:Int)-1:=by unfold inB at hI;simpa using hI
     obtain ⟨k,rfl⟩:∃k:Nat,n=(k:Int):=⟨n.toNat,by omega⟩;have hk:k<n0:=by omega
     go_enter Try.func122,Try.ntmps122
     go_wp2_with fail
     generalize hW:w.alloc (.cells #[.slice a0 n0 c0,.slice a1 n1 c1,.bool false,.slice a3 n3 c3] 54)=W at hA g0 g1 g3 q0 q1 q2 q3 zm ⊢;clear hW xm;refine (aK _ E _ _ _ _ _ _ _ _ _ ss cs false bs g0 g1 g3 hw).mono ?_
     rintro e w1 ⟨rfl,b1⟩;have r0:=(b1.cell (p:=⟨w.heap.size,0,none⟩) zm).trans q0;have r1:=(b1.cell (p:=⟨w.heap.size,1,none⟩) zm).trans q1;have r2:=(b1.cell (p:=⟨w.heap.size,2,none⟩) zm).trans q2;have r3:=(b1.cell (p:=⟨w.heap.size,3,none⟩) zm).trans q3;have B1:=Below.andThen hA b1;have z1:=Nat.lt_of_lt_of_le zm b1.size;clear q0 q1 q2 q3;go_wp2_with fail
     refine (bh _ _ _ _ _ _ _ _).mono ?_
     rintro e w2 ⟨rfl,b2⟩;have t0:=(b2.cell (p:=⟨w.heap.size,0,none⟩) z1).trans r0;have t1:=(b2.cell (p:=⟨w.heap.size,1,none⟩) z1).trans r1;have t3:=(b2.cell (p:=⟨w.heap.size,3,none⟩) z1).trans r3;have B2:=Below.andThen B1 b2;have z2:=Nat.lt_of_lt_of_le z1 b2.size;have k3:=g3.below (Below.andThen b1 b2);clear r0 r1 r2 r3;go_wp2_with fail
     refine (cF _ _ _ _ bs _ hl3 (ap k3).1 hw3).mono ?_
     rintro e w3 ⟨rfl,s3⟩;have B3:=Below.andSame B2 s3;have m0:=(s3.cell _).trans t0;have m1:=(s3.cell _).trans t1;have b3:=Below.andSame (Below.andThen b1 b2) s3;have y1:=g1.below b3;rcases cG rfl g0 with h0'|⟨b,off,rfl,hbl,hcs⟩
     . omega
     have hdj:ss[k]?=some (ss[k]'(by omega)):=List.getElem?_eq_getElem (by omega);generalize ss[k]'(by omega)=x at hdj;have hil:=cZ hdj;obtain ⟨v,hv,hrv⟩:=hcs k x hdj;obtain ⟨av,cv,rfl⟩:=ak hrv;have mv:=(b3.cell (p:=⟨b,off+k,none⟩) hbl).trans hv;have hrx:=hrv.below b3;have hgx:dm ss (k:Int)=x:=by unfold dm;rw [Int.toNat_natCast,List.getD_eq_getElem?_getD,hdj];rfl
     have HGX:=ab hgx;have HX:=ab hrx;have HB3:=ab B3;have i1:(0:Int)<=(k:Int):=by omega
     have i2:(k:Int)<(n0:Int):=by omega
     have zb3:b<w3.heap.size:=Nat.lt_of_lt_of_le hbl b3.size;have z3:w.heap.size<w3.heap.size:=Nat.lt_of_lt_of_le zm b3.size;have hwr:=fN hM;have hk20:=gT hM;clear hcs hdj hv hrv hgx hrx B3 b3 t0 t1 t3 g0 g1 g3 k3 B1 B2 b1 b2 s3 hA fin hB hI hI' hM;go_wp2_with fail
     refine (fM _ E _ _ _ cs y1 hn1 hwr).mono ?_
     rintro e w4 ⟨rfl,b4,D,hown,hL⟩;have n0':=(b4.cell (p:=⟨w.heap.size,0,none⟩) z3).trans m0;have nv:=(b4.cell (p:=⟨b,off+k,none⟩) zb3).trans mv;have HB4:=ab (Below.andThen HB3.out b4);have HX4:=ab (HX.out.below b4);have HOW:=ab hown;have HL:=ab hL;have HKEY:=ab (hY (q:=(k:Int)) (by omega) (by omega));have B4L:=ab b4;clear m0 m1 mv b4 hown hL y1 HB3 HX;cases hlw:bA cs (k:Int) with
     | none=>
      have HZ:Hid ((bA cs (k:Int)).getD (dm ss (k:Int))=x):=by unfold Hid;rw [hlw,HGX.out];rfl
      have HLW:=ab hlw;clear hlw;have hX:Below w4.heap.size w4 (w4.alloc (.cells #[.int .i64 0,.slice none 0 0] 114)):=(Below.refl _ _).alloc (Nat.le_refl _) _;have z4:=HB4.out.size;have z34:=B4L.out.size;have p0:=(hX.cell (p:=⟨w.heap.size,0,none⟩) (by simp only;omega)).trans n0';have pv:=(hX.cell (p:=⟨b,off+k,none⟩) (by simp only;omega)).trans nv;have HX5:=ab (HX4.out.below hX);have HB5:=ab (Below.andThen HB4.out hX);clear hX;go_wp2_with (at_lookup;refine gC rfl _ _ rfl w3.heap.size n1 D w3 cs (k:Int) rfl HOW.out rfl HKEY.out HL.out HLW.out ?_)
      refine (dl _ _ _ _ x HX5.out (by omega)).mono ?_
      rintro e w5 ⟨a5,c5,rfl,o5,b5⟩;have hsz:=HB5.out.size;go_wp2
      go_ret2
      exact ⟨_,_,_,rfl,by rw [HZ.out];exact o5.widen hsz (Nat.le_refl _),Below.andThen HB5.out b5⟩
     | some zs=>
      have HZ:Hid ((bA cs (k:Int)).getD (dm ss (k:Int))=zs):=by unfold Hid;rw [hlw];rfl
      have HLW:=ab hlw;have hzl:zs.length<=2097152:=gU hw1 hlw;clear hlw;go_wp2_with (at_lookup;refine gB rfl _ _ rfl w3.heap.size n1 D w3 cs (k:Int) zs rfl HOW.out rfl HKEY.out HL.out HLW.out ?_;intro a9 c9 h9;have H9:=ab (h9.below B4L.out);clear h9)
      have hX:Below w4.heap.size w4 (w4.alloc (.cells #[.int .i64 (k:Int),.slice a9 zs.length c9] 114)):=(Below.refl _ _).alloc (Nat.le_refl _) _;have HB5:=ab (Below.andThen HB4.out hX);refine (dl _ _ _ _ zs (H9.out.below hX) (by omega)).mono ?_
      rintro e w5 ⟨a5,c5,rfl,o5,b5⟩;have hsz:=HB5.out.size;go_wp2
      go_ret2
      exact ⟨_,_,_,rfl,by rw [HZ.out];exact o5.widen hsz (Nat.le_refl _),Below.andThen HB5.out b5⟩
   have hI:inB n 0 ((n0:Int)-1)=false:=by simpa using hI
   have hro:aI ss cs false bs n=false:=by unfold aI;rw [hM,hl0,hI];rfl
   have hrd:aN ss cs false bs n=[]:=by unfold aN;rw [hro];rfl
   rw [hro,hrd];clear hro hrd;go_enter Try.func122,Try.ntmps122
   go_wp2_with fail
   generalize hW:w.alloc (.cells #[.slice a0 n0 c0,.slice a1 n1 c1,.bool false,.slice a3 n3 c3] 54)=W at hA g0 g1 g3 q0 q1 q2 q3 zm ⊢;clear hW xm;refine (aK _ E _ _ _ _ _ _ _ _ _ ss cs false bs g0 g1 g3 hw).mono ?_
   rintro e w1 ⟨rfl,b1⟩;have r0:=(b1.cell (p:=⟨w.heap.size,0,none⟩) zm).trans q0;have r1:=(b1.cell (p:=⟨w.heap.size,1,none⟩) zm).trans q1;have r2:=(b1.cell (p:=⟨w.heap.size,2,none⟩) zm).trans q2;have r3:=(b1.cell (p:=⟨w.heap.size,3,none⟩) zm).trans q3;have B1:=Below.andThen hA b1;have z1:=Nat.lt_of_lt_of_le zm b1.size;clear q0 q1 q2 q3;go_wp2_with fail
   refine (bh _ _ _ _ _ _ _ _).mono ?_
   rintro e w2 ⟨rfl,b2⟩;have t0:=(b2.cell (p:=⟨w.heap.size,0,none⟩) z1).trans r0;have t1:=(b2.cell (p:=⟨w.heap.size,1,none⟩) z1).trans r1;have t3:=(b2.cell (p:=⟨w.heap.size,3,none⟩) z1).trans r3;have B2:=Below.andThen B1 b2;have z2:=Nat.lt_of_lt_of_le z1 b2.size;have k3:=g3.below (Below.andThen b1 b2);clear r0 r1 r2 r3;go_wp2
   go_ret2
   exact ⟨_,_,_,rfl,(fin _ B2).1,(fin _ B2).2⟩
 have hM:bJ ss cs bs=false:=by simpa using hM
 have hro:aI ss cs f bs n=false:=by unfold aI;rw [hM];rfl
 have hrd:aN ss cs f bs n=[]:=by unfold aN;rw [hro];rfl
 rw [hro,hrd];clear hro hrd;go_enter Try.func122,Try.ntmps122
 go_wp2_with fail
 generalize hW:w.alloc (.cells #[.slice a0 n0 c0,.slice a1 n1 c1,.bool f,.slice a3 n3 c3] 54)=W at hA g0 g1 g3 q0 q1 q2 q3 zm ⊢;clear hW xm;refine (aK _ E _ _ _ _ _ _ _ _ _ ss cs f bs g0 g1 g3 hw).mono ?_
 rintro e w1 ⟨rfl,b1⟩;have r0:=(b1.cell (p:=⟨w.heap.size,0,none⟩) zm).trans q0;have r1:=(b1.cell (p:=⟨w.heap.size,1,none⟩) zm).trans q1;have r2:=(b1.cell (p:=⟨w.heap.size,2,none⟩) zm).trans q2;have r3:=(b1.cell (p:=⟨w.heap.size,3,none⟩) zm).trans q3;have B1:=Below.andThen hA b1;have z1:=Nat.lt_of_lt_of_le zm b1.size;clear q0 q1 q2 q3;go_wp2
 go_ret2
 exact ⟨_,_,_,rfl,(fin _ B1).1,(fin _ B1).2⟩
end Go.Proofs.Ytfimpohbpccjaaa
