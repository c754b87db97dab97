/-
 The exact law of Words holds: for every array and every number the law returns true. No condition.
-/
import Derived.Test.YtfimpohbpccjaaaRowWordsSq18
import Derived.Test.YtfimpohbpccjaaaRowWordsSq17
import Derived.Test.YtfimpohbpccjaaaRowWordsSq16
import Derived.Test.YtfimpohbpccjaaaRowWordsSq12
import Derived.Test.YtfimpohbpccjaaaRows
import Derived.Lib.SmallJoins
import Derived.Test.YtfimpohbpccjaaaRowWordsSq13
import Derived.WalkKit
import Derived.ProofKit
import Derived.OpenShut
import Derived.ShutString
import Derived.ChangeOld
import Derived.Below

set_option maxRecDepth 100000
set_option maxHeartbeats 8000000
set_option linter.unusedSimpArgs false

namespace Go.Proofs.Ytfimpohbpccjaaa
open Go.RowKit

theorem gb (w:World) (E:TypeId) (x:aF) (ms:List aD) (j:Nat) (v:Value) (s:Int) (hd:DiskV w E x ms j v) (hw:az ms<=2097152):
 Calls Try.prog 41 #[v,.int .i64 s] w fun e w'=>e=.returned (.tuple #[.int .i64 (bo x ms (j:Int) s),.bool (bl x ms (j:Int) s)])/\Below w.heap.size w w':=by
 obtain ⟨a0,a1,a3,c0,c1,c3,ss,cs,f,bs,hj,r0,r1,r3,h⟩:=hd;have hwm:=Nat.le_trans (bM hj) hw;obtain ⟨hh,hv⟩:=ig (x:=x) (s:=s) hj;have hl:=hC (x:=x) (s:=s) hj;rcases h with ⟨rfl,rfl⟩|⟨rfl,hx,rfl⟩|⟨rfl,hx,rfl⟩
 . exact er w x ms j s (by rw [hh,hl];rfl)
 . exact fk w E x ms j s a0 a1 a3 c0 c1 c3 ss cs bs r0 r1 r3 hwm (by rw [hh,hl];simp [hx]) hv
 exact eM w E x ms j s a0 a1 a3 c0 c1 c3 ss cs bs r0 r1 r3 hwm (by rw [hh,hl];simp [hx]) hv
theorem fill6 (x:aF) (ms:List aD) (s:Int) (n j:Nat) (h:j<n):(bj x ms s j++List.replicate (n-j) (0:Int)).set j (bo x ms (j:Int) s)=bj x ms s (j+1)++List.replicate (n-(j+1)) (0:Int):=by
 have e:n-j=(n-(j+1))+1:=by omega
 rw [List.set_append,if_neg (by rw [bP];omega),bP,Nat.sub_self,e,List.replicate_succ,List.set_cons_zero,dY,List.append_assoc];rfl
theorem dp (w:World) (E F G:TypeId) (x:aF) (am ad:Option Addr) (nm cm nd cd:Nat) (ms:List aD) (ds:List (Int×List Int)) (s:Int) (h0:(aY E F).Rd w [.slice am nm cm] ms) (h1:(aP G).Rd w [.slice ad nd cd] ds) (hw:bc ms ds<=2097152):
 Calls Try.prog 14 #[.agg #[.int .i64 x.id,.int .i64 x.n,.int .i64 x.s,.slice am nm cm,.int .i64 x.lost,.int .i64 x.il,.int .i64 x.seq,.int .i64 x.tail,.int .i64 x.gen,.slice ad nd cd,.int .i64 x.io,.bool x.down,.bool x.im],.int .i64 s] w fun e w'=>∃a' l' c',e=.returned (.tuple #[.slice a' l' c',.bool (aO x ms ds s)])/\aA.Own w' w.heap.size w'.heap.size [.slice a' l' c'] (aT x ms ds s)/\Below w.heap.size w w':=by
 have hwm:az ms<=2097152:=by unfold bc at hw;omega
 obtain ⟨hl,hc,hm⟩:=af h0;obtain ⟨i0,hi,hz0,hz1,hz2⟩:=info_parts Try.info3;have hA:=ai w (.cells #[.int .i64 x.id,.int .i64 x.n,.int .i64 x.s,.slice am nm cm,.int .i64 x.lost,.int .i64 x.il,.int .i64 x.seq,.int .i64 x.tail,.int .i64 x.gen,.slice ad nd cd,.int .i64 x.io,.bool x.down,.bool x.im] 34);have X:=Box.new w 34 #[.int .i64 x.id,.int .i64 x.n,.int .i64 x.s,.slice am nm cm,.int .i64 x.lost,.int .i64 x.il,.int .i64 x.seq,.int .i64 x.tail,.int .i64 x.gen,.slice ad nd cd,.int .i64 x.io,.bool x.down,.bool x.im];obtain ⟨k0,k1,k2,k3,k4,k5,k6,k7,k8,k9,k10,k11,k12⟩:=X.cells13;have zA:=X.lt;have r0:=h0.below hA;have r1:=h1.below hA;go_enter Try.func14,Try.ntmps14
 go_wp2_with fail
 generalize w.alloc (.cells #[.int .i64 x.id,.int .i64 x.n,.int .i64 x.s,.slice am nm cm,.int .i64 x.lost,.int .i64 x.il,.int .i64 x.seq,.int .i64 x.tail,.int .i64 x.gen,.slice ad nd cd,.int .i64 x.io,.bool x.down,.bool x.im] 34)=W at hA X zA r0 r1 k0 k1 k2 k3 k4 k5 k6 k7 k8 k9 k10 k11 k12 ⊢;refine (et _ E F G x _ _ _ _ _ _ ms ds r0 r1 hw).mono ?_
 rintro e w1 ⟨rfl,b1⟩;have X1:=X.below b1 zA;have B1:=Below.andThen hA b1;have q1:=r0.below b1;clear k0 k1 k2 k3 k4 k5 k6 k7 k8 k9 k10 k11 k12 X b1 hA zA r0 r1;obtain ⟨k0,k1,k2,k3,k4,k5,k6,k7,k8,k9,k10,k11,k12⟩:=X1.cells13;cases ha:aX x ms ds
 . skip
   have HF:Hid (aO x ms ds s=false/\aT x ms ds s=[]):=by unfold Hid aO aT dI;simp [ha]
   have FO:=ab ((aH (aS.lit .i64 3 w1 [] 0 #[] rfl rfl (by unfold maxLen;omega))).widen (lo':=w.heap.size) B1.size (Nat.le_refl _));have FB:=ab (B1.alloc B1.size (.cells #[] 3));go_wp2
   refine bodyPost_ret (v:=.tuple #[.slice (some ⟨w1.heap.size,0,none⟩) 0 0,.bool false]) (by simp [results,Try.results14,go_sem]) rfl ?_
   exact ⟨_,_,_,by rw [HF.out.1],by rw [HF.out.2];exact FO.out,FB.out⟩
 have hg:cp x.n x.s=true:=by unfold aX at ha;simp only [Bool.and_eq_true] at ha;exact ha.1
 have hmn:(ms.length:Int)=x.n:=by unfold aX bn at ha;simp only [Bool.and_eq_true,decide_eq_true_eq] at ha;exact ha.2.2.1.2
 have HMN:=ab hmn;clear hmn;obtain ⟨g1,g2,g3,g4⟩:=aW.1 hg;cases hbr:x.im
 . rw [hbr] at k12
   go_wp2_with fail
   refine (aU _ x.n x.s s).mono ?_
   rintro e w2 ⟨rfl,b2⟩;have X2:=X1.below b2 X1.lt;have B2:=Below.andThen B1 b2;have q2:=q1.below b2;clear k0 k1 k2 k3 k4 k5 k6 k7 k8 k9 k10 k11 k12 X1 b2 B1 q1;have hst:=dq (x:=x) (y:=s) hg;cases hin:cJ x.n x.s s
   . skip
     have HF:Hid (aO x ms ds s=false/\aT x ms ds s=[]):=by unfold Hid aO aT dI;rw [←hst,hin];simp
     have FO:=ab ((aH (aS.lit .i64 3 w2 [] 0 #[] rfl rfl (by unfold maxLen;omega))).widen (lo':=w.heap.size) B2.size (Nat.le_refl _));have FB:=ab (B2.alloc B2.size (.cells #[] 3));go_wp2
     refine bodyPost_ret (v:=.tuple #[.slice (some ⟨w2.heap.size,0,none⟩) 0 0,.bool false]) (by simp [results,Try.results14,go_sem]) rfl ?_
     exact ⟨_,_,_,by rw [HF.out.1],by rw [HF.out.2];exact FO.out,FB.out⟩
   have HF:Hid (aO x ms ds s=cE x ms s/\aT x ms ds s=bO x ms s):=by unfold Hid aO aT dI;rw [ha,hbr,←hst,hin];exact ⟨rfl,rfl⟩
   clear hst hbr ha hin;obtain ⟨n,hn⟩:∃n:Nat,x.n=(n:Int):=⟨x.n.toNat,by omega⟩;have HN:=ab hn;have HNT:Hid (x.n.toNat=n):=by unfold Hid;omega
   have hn5:n<=5:=by omega
   have hn3:3<=n:=by omega
   have hnm:n=nm:=by have:=HMN.out;omega
   have HNM:=ab hnm;clear hnm;obtain ⟨k0,k1,k2,k3,k4,k5,k6,k7,k8,k9,k10,k11,k12⟩:=X2.cells13;rw [hn] at k1;clear hn k0 k2 k3 k4 k5 k6 k7 k8 k9 k10 k11 k12;have hb3:i0.bytes*n<=281474976710656:=by rw [hz2];omega
   have hm3:n<=maxLen:=by unfold maxLen;omega
   go_wp2_with (at_make;refine wpList_make_full _ rfl _ _ 38 rfl w2.heap.size 3 i0 (.int .i64 0) 1 Try.underlying38 hi hz0 hz1 _ _ _ _ n rfl rfl rfl rfl hb3 hm3 (Nat.le_refl _) ?_;intro w3 hown hgrow)
   have hO:aS .i64 3 w3 w2.heap.size (.slice (some ⟨w2.heap.size,0,none⟩) n n) (List.replicate n 0):=by
    rw [eu] at hown;unfold aS;rw [List.length_replicate];exact hown
   have hO1:=hO.own;have hB1:Below w2.heap.size w2 w3:=(Below.refl _ _).grown hgrow (Nat.le_refl _) (by simp);have zw:w2.heap.size<w3.heap.size:=hO1.2 _ rfl;generalize w3.heap.size=hi1 at hO1 zw;clear hown hgrow hO k1;go_loopw [7,32] (fun lo i wr=>∃j:Nat,j<=n/\i=.int .i64 j/\lo=.int .i64 (cf (aQ x ms s j))/\(aQ x ms s j).length<=1/\Own .i64 3 wr w2.heap.size hi1 (.slice (some ⟨w2.heap.size,0,none⟩) n n) (bj x ms s j++List.replicate (n-j) 0)/\Below w2.heap.size w2 wr) (fun _ i _=>n-(intOf i).toNat)
   case atStart=>exact ⟨0,Nat.zero_le _,rfl,rfl,Nat.zero_le _,by simpa [bj] using hO1,hB1⟩
   clear hO1 hB1;obtain ⟨j,hj,rfl,rfl,hm1,ho,hb⟩:=hrel;have Xr:=X2.below hb X2.lt;have zs:=hb.size;by_cases hlt:j<n
   . obtain ⟨k0,k1,k2,k3,k4,k5,k6,k7,k8,k9,k10,k11,k12⟩:=Xr.cells13
     have hlt':(j:Int)<(n:Int):=by omega
     go_wp2_with fail
     refine (fU _ E F x _ _ _ _ _ _ ms j (q2.below hb) hwm (by have:=HNM.out;omega)).mono ?_
     rintro e w5 ⟨v,rfl,hd,b5⟩;have o5:=ho.below b5;have B5:=hb.trans (b5.mono zs);clear k0 k1 k2 k3 k4 k5 k6 k7 k8 k9 k10 k11 k12 Xr b5 ho hb;go_wp2_with fail
     refine (gb _ E x ms j v s hd hwm).mono ?_
     rintro e w6 ⟨rfl,b6⟩;have o6:=o5.below b6;have B6:=B5.trans (b6.mono B5.size);clear b6 o5 B5 hd;have hfs:=fill6 x ms s n j hlt;obtain ⟨hcy,hfy,hst,hbt⟩:=o6.store j hlt (bo x ms (j:Int) s);rw [hfs] at hst;have HST:=ab hst;have HB:Hid (Below w2.heap.size w2 (w6.setCell ⟨w2.heap.size,j,none⟩ (.int .i64 (bo x ms (j:Int) s)))):=B6.setCell (Nat.le_refl _) _;have hj0:(0:Int)<=(j:Int):=Int.natCast_nonneg _;clear hst hbt hfs;generalize (bj x ms s j++List.replicate (n-j) 0).getD j 0=old at hcy;cases hh:bl x ms (j:Int) s
     . have hmn:=dZ hh
       rcases cX hm1 with h00|⟨p,hp⟩
       . have hl0:cf (aQ x ms s j)=-1:=by rw [h00];rfl
         have hl1:cf (aQ x ms s (j+1))=(j:Int):=by rw [hmn,h00];rfl
         have hc1:(aQ x ms s (j+1)).length<=1:=by rw [hmn,h00];exact Nat.le_refl _
         have HL1:=ab hl1;have HC1:=ab hc1;rw [hl0];clear hmn h00 hl0 hl1 hc1 B6 o6;generalize bo x ms (j:Int) s=y at HST HB ⊢;go_wp2
         go_roundw
         case rel=>exact ⟨j+1,by omega,by go_num,by rw [HL1.out],HC1.out,HST.out,HB.out⟩
         case measure=>simp [intOf];omega
       have hl0:cf (aQ x ms s j)=(p:Int):=by rw [hp];rfl
       obtain ⟨t1,t2⟩:=eE (x:=x) (ms:=ms) (s:=s) (j:=j+1) (by rw [hmn,hp];exact Nat.le_refl _) (by have:=HNT.out;omega);have HT1:=ab t1;have HT2:=ab t2;rw [hl0];have hp0:((p:Int) !=-1)=true:=by simp
       have hp1:((p:Int)==-1)=false:=by simp
       clear hmn hp hl0 t1 t2 HST HB;have FO:=ab ((aH (aS.lit .i64 3 w6 [] 0 #[] rfl rfl (by unfold maxLen;omega))).widen (lo':=w.heap.size) (Nat.le_trans B2.size B6.size) (Nat.le_refl _));have FB:=ab (B2.trans ((B6.alloc B6.size (.cells #[] 3)).mono B2.size));clear B6 o6;go_wp2
       refine bodyPost_ret (v:=.tuple #[.slice (some ⟨w6.heap.size,0,none⟩) 0 0,.bool false]) (by simp [results,Try.results14,go_sem]) rfl ?_
       exact ⟨_,_,_,by rw [HF.out.1,HT1.out],by rw [HF.out.2,HT2.out];exact FO.out,FB.out⟩
     have hmy:=dD hh;have HL1:Hid (cf (aQ x ms s (j+1))=cf (aQ x ms s j)):=by unfold Hid;rw [hmy]
     have HC1:Hid ((aQ x ms s (j+1)).length<=1):=by unfold Hid;rw [hmy];exact hm1
     clear hmy B6 o6;generalize bo x ms (j:Int) s=y at HST HB ⊢;go_wp2
     go_roundw
     case rel=>exact ⟨j+1,by omega,by go_num,by rw [HL1.out],HC1.out,HST.out,HB.out⟩
     case measure=>simp [intOf];omega
   have ej:j=n:=by omega
   subst ej;rw [Nat.sub_self,List.replicate_zero,List.append_nil] at ho;have hlen:=bP x ms s j;rcases cX hm1 with h00|⟨p,hp⟩
   . have hl0:cf (aQ x ms s j)=-1:=by rw [h00];rfl
     obtain ⟨t1,t2⟩:=eb (x:=x) (ms:=ms) (s:=s) (by rw [HNT.out];exact h00);rw [HNT.out] at t2;have HT1:=ab t1;have HT2:=ab t2;rw [hl0];clear h00 hl0 t1 t2;have FO:=ab ((aH ho.1).widen (lo':=w.heap.size) B2.size (Nat.le_refl _));have FB:=ab (B2.trans (hb.mono B2.size));clear ho hb Xr hlen hm1 hj hlt;go_wp2
     refine bodyPost_ret (v:=.tuple #[.slice (some ⟨w2.heap.size,0,none⟩) j j,.bool true]) (by simp [results,Try.results14,go_sem]) rfl ?_
     exact ⟨_,_,_,by rw [HF.out.1,HT1.out],by rw [HF.out.2,HT2.out];exact FO.out,FB.out⟩
   have hl0:cf (aQ x ms s j)=(p:Int):=by rw [hp];rfl
   have hpj:p<j:=eZ (x:=x) (ms:=ms) (s:=s) (by rw [hp];simp);obtain ⟨t1,t2⟩:=eF (x:=x) (ms:=ms) (s:=s) (p:=p) (by rw [HNT.out];exact hp);rw [HNT.out] at t2;have HT1:=ab t1;have HT2:=ab t2;rw [hl0];clear hp hl0 t1 t2;have hp0:((p:Int) !=-1)=true:=by simp
   have hp1:((p:Int)==-1)=false:=by simp
   have hp2:(0:Int)<=(p:Int):=by omega
   have hp3:(p:Int)<(j:Int):=by omega
   go_wp2_with fail
   refine (dg _ _ _ _ (bj x ms s j) (p:Int) hlen ho.reads (by omega)).mono ?_
   rintro e w7 ⟨rfl,hs7⟩;have O1:=ho.same hs7;have B7:=hb.trans (hs7.below _);obtain ⟨c1,f1,O2,t2⟩:=O1.store p hpj (br (bj x ms s j) (p:Int) j);have FO:=ab ((aH O2.1).widen (lo':=w.heap.size) B2.size (Nat.le_refl _));have FB:=ab (B2.trans ((B7.setCell (p:=⟨w2.heap.size,p,none⟩) (Nat.le_refl _) (.int .i64 (br (bj x ms s j) (p:Int) j))).mono B2.size));generalize (bj x ms s j).getD p 0=y at c1;generalize br (bj x ms s j) (p:Int) j=q at FO FB HT2 ⊢;clear O1 O2 t2 ho hb hs7 Xr B7;go_wp2
   refine bodyPost_ret (v:=.tuple #[.slice (some ⟨w2.heap.size,0,none⟩) j j,.bool true]) (by simp [results,Try.results14,go_sem]) rfl ?_
   exact ⟨_,_,_,by rw [HF.out.1,HT1.out],by rw [HF.out.2,HT2.out];exact FO.out,FB.out⟩
 rw [hbr] at k12;have HF:Hid (aO x ms ds s=false/\aT x ms ds s=[]):=by unfold Hid aO aT dI;simp [hbr]
 have FO:=ab ((aH (aS.lit .i64 3 w1 [] 0 #[] rfl rfl (by unfold maxLen;omega))).widen (lo':=w.heap.size) B1.size (Nat.le_refl _));have FB:=ab (B1.alloc B1.size (.cells #[] 3));go_wp2
 refine bodyPost_ret (v:=.tuple #[.slice (some ⟨w1.heap.size,0,none⟩) 0 0,.bool false]) (by simp [results,Try.results14,go_sem]) rfl ?_
 exact ⟨_,_,_,by rw [HF.out.1],by rw [HF.out.2];exact FO.out,FB.out⟩
theorem dB (x:aF) (am ad:Option Addr) (nm cm nd cd:Nat) (ms:List aD) (ds:List (Int×List Int)) (s:Int) (w:World) (h0:(aY 119 78).Rd w [.slice am nm cm] ms) (h1:(aP 81).Rd w [.slice ad nd cd] ds):
 Calls Try.prog 4 #[.agg #[.int .i64 x.id,.int .i64 x.n,.int .i64 x.s,.slice am nm cm,.int .i64 x.lost,.int .i64 x.il,.int .i64 x.seq,.int .i64 x.tail,.int .i64 x.gen,.slice ad nd cd,.int .i64 x.io,.bool x.down,.bool x.im],.int .i64 s] w fun e w'=>e=.returned (.bool true)/\Below w.heap.size w w':=by
 have hA:=ai w (.cells #[.int .i64 x.id,.int .i64 x.n,.int .i64 x.s,.slice am nm cm,.int .i64 x.lost,.int .i64 x.il,.int .i64 x.seq,.int .i64 x.tail,.int .i64 x.gen,.slice ad nd cd,.int .i64 x.io,.bool x.down,.bool x.im] 27);have xm:=Box.new w 27 #[.int .i64 x.id,.int .i64 x.n,.int .i64 x.s,.slice am nm cm,.int .i64 x.lost,.int .i64 x.il,.int .i64 x.seq,.int .i64 x.tail,.int .i64 x.gen,.slice ad nd cd,.int .i64 x.io,.bool x.down,.bool x.im];have z0:=xm.lt;have B0:=ab hA;have BR0:=ab xm;obtain ⟨l0,l1,l2,l3,l4,l5,l6,l7,l8,l9,l10,l11,l12⟩:=xm.cells13;go_enter Try.func4,Try.ntmps4
 go_wp2_with fail
 generalize w.alloc (.cells #[.int .i64 x.id,.int .i64 x.n,.int .i64 x.s,.slice am nm cm,.int .i64 x.lost,.int .i64 x.il,.int .i64 x.seq,.int .i64 x.tail,.int .i64 x.gen,.slice ad nd cd,.int .i64 x.io,.bool x.down,.bool x.im] 27)=w0 at hA xm z0 B0 BR0 l0 l1 l2 l3 l4 l5 l6 l7 l8 l9 l10 l11 l12 ⊢;clear hA xm;refine (gy _ 119 78 81 x _ _ _ _ _ _ ms ds _ (h0.below B0.out) (h1.below B0.out) (by omega) (by omega)).mono ?_
 rintro e w1 ⟨rfl,hb1⟩;clear l0 l1 l2 l3 l4 l5 l6 l7 l8 l9 l10 l11 l12;have B1:=ab (Below.andThen B0.out hb1);have BR1:=ab (BR0.out.below hb1 (by omega));have z1:=hb1.size;clear B0 BR0 hb1;by_cases hwt:(bc ms ds:Int)<=1048576
 . have hq:=aC hwt
   have hwt':bc ms ds<=1048576:=by omega
   have hwt2:bc ms ds<=2097152:=by omega
   have hgl:=fT x ms ds s;generalize hP:aT x ms ds s=ps at hgl;generalize hn:ps.length=pl at hgl;have HP:=ab hP;have HN:=ab hn;clear hP hn;generalize hok:aO x ms ds s=rb;have HOK:=ab hok;clear hok;have hrb:(rb !=rb)=false:=by simp
   have hrb':(rb==rb)=true:=by simp
   have hd:decide (ps=ps)=true:=by simp
   have hwtc:bc ms ds<=1048576:=hwt';obtain ⟨l0,l1,l2,l3,l4,l5,l6,l7,l8,l9,l10,l11,l12⟩:=BR1.out.cells13;go_wp2_with fail
   refine (de _ 119 78 81 x _ _ _ _ _ _ ms ds (h0.below B1.out) (h1.below B1.out) hwt').mono ?_
   rintro e w2 ⟨bm2,bd2,rfl,om2,od2,ya2,yb2,hb2⟩;clear l0 l1 l2 l3 l4 l5 l6 l7 l8 l9 l10 l11 l12;have B2:=ab (Below.andThen B1.out hb2);have BR2:=ab (BR1.out.below hb2 (by omega));have z2:=hb2.size;clear B1 BR1 hb2;have Cm2:=ab om2;clear om2;have Cd2:=ab od2;clear od2;go_wp2_with fail
   refine (eq _ 114 54 83 x _ _ _ _ _ _ ms ds s Cm2.out.rd Cd2.out.rd hwt2).mono ?_
   rintro e w3 ⟨a3,l3,c3,rfl,o3,hb3⟩;rw [HOK.out];obtain ⟨rfl,o3'⟩:=ef o3 HP.out HN.out;clear o3;have B3:=ab (Below.andThen B2.out hb3);have BR3:=ab (BR2.out.below hb3 (by omega));have Cm3:=ab (Cm2.out.below hb3);have Cd3:=ab (Cd2.out.below hb3);have z3:=hb3.size;clear B2 BR2 Cm2 Cd2 hb3;have W3:=ab o3';clear o3';clear Cm3;clear Cd3;obtain ⟨l0,l1,l2,l3,l4,l5,l6,l7,l8,l9,l10,l11,l12⟩:=BR3.out.cells13;go_wp2_with fail
   refine (de _ 119 78 81 x _ _ _ _ _ _ ms ds (h0.below B3.out) (h1.below B3.out) hwt').mono ?_
   rintro e w4 ⟨bm4,bd4,rfl,om4,od4,ya4,yb4,hb4⟩;clear l0 l1 l2 l3 l4 l5 l6 l7 l8 l9 l10 l11 l12;have B4:=ab (Below.andThen B3.out hb4);have BR4:=ab (BR3.out.below hb4 (by omega));have W4:=ab (W3.out.below hb4);have z4:=hb4.size;clear B3 BR3 W3 hb4;have Dm4:=ab om4;clear om4;have Dd4:=ab od4;clear od4;have ba:Below w4.heap.size w4 (w4.alloc (.cells #[.int .i64 x.id,.int .i64 x.n,.int .i64 x.s,.slice (some ⟨bm4,0,none⟩) nm nm,.int .i64 x.lost,.int .i64 x.il,.int .i64 x.seq,.int .i64 x.tail,.int .i64 x.gen,.slice (some ⟨bd4,0,none⟩) nd nd,.int .i64 x.io,.bool x.down,.bool x.im] 34)):=(Below.refl _ _).alloc (Nat.le_refl _) _;have xb:=Box.new w4 34 #[.int .i64 x.id,.int .i64 x.n,.int .i64 x.s,.slice (some ⟨bm4,0,none⟩) nm nm,.int .i64 x.lost,.int .i64 x.il,.int .i64 x.seq,.int .i64 x.tail,.int .i64 x.gen,.slice (some ⟨bd4,0,none⟩) nd nd,.int .i64 x.io,.bool x.down,.bool x.im];have zx:=xb.lt;have B5:=ab (Below.andThen B4.out ba);have BR5:=ab (BR4.out.below ba (by omega));have W5:=ab (W4.out.below ba);have Dm5:=ab (Dm4.out.below ba);have Dd5:=ab (Dd4.out.below ba);have z5:=ba.size;clear B4 BR4 W4 Dm4 Dd4 ba;have BX5:=ab xb;clear xb;obtain ⟨q0,q1,q2,q3,q4,q5,q6,q7,q8,q9,q10,q11,q12⟩:=BX5.out.cells13;go_wp2_with fail
   generalize w4.alloc (.cells #[.int .i64 x.id,.int .i64 x.n,.int .i64 x.s,.slice (some ⟨bm4,0,none⟩) nm nm,.int .i64 x.lost,.int .i64 x.il,.int .i64 x.seq,.int .i64 x.tail,.int .i64 x.gen,.slice (some ⟨bd4,0,none⟩) nd nd,.int .i64 x.io,.bool x.down,.bool x.im] 34)=w5 at B5 BR5 W5 Dm5 Dd5 BX5 z5 zx q0 q1 q2 q3 q4 q5 q6 q7 q8 q9 q10 q11 q12 ⊢;refine (dp _ 114 54 83 x _ _ _ _ _ _ ms ds s Dm5.out.rd Dd5.out.rd hwt2).mono ?_
   rintro e w6 ⟨a6,l6,c6,rfl,o6,hb6⟩;rw [HOK.out];obtain ⟨rfl,o6'⟩:=ef o6 HP.out HN.out;clear o6;clear q0 q1 q2 q3 q4 q5 q6 q7 q8 q9 q10 q11 q12;have B6:=ab (Below.andThen B5.out hb6);have BR6:=ab (BR5.out.below hb6 (by omega));have W6:=ab (W5.out.below hb6);have Dm6:=ab (Dm5.out.below hb6);have Dd6:=ab (Dd5.out.below hb6);have BX6:=ab (BX5.out.below hb6 (by omega));have z6:=hb6.size;clear B5 BR5 W5 Dm5 Dd5 BX5 hb6;have G6:=ab o6';clear o6';go_wp2_with fail
   refine (bu _ _ _ _ _ _ _ ps ps HN.out HN.out (ap G6.out.rd).1 (ap W6.out.rd).1 (by omega)).mono ?_
   rintro e w7 ⟨rfl,hs7⟩;have B7:=ab (Below.andSame B6.out hs7);have BR7:=ab (BR6.out.same hs7);have W7:=ab (W6.out.same hs7);have Dm7:=ab (Dm6.out.same hs7);have Dd7:=ab (Dd6.out.same hs7);have BX7:=ab (BX6.out.same hs7);have G7:=ab (G6.out.same hs7);have z7:=Nat.le_of_eq hs7.size.symm;clear B6 BR6 W6 Dm6 Dd6 BX6 G6 hs7;obtain ⟨y0,y1,y2,y3,y4,y5,y6,y7,y8,y9,y10,y11,y12⟩:=BX7.out.cells13;obtain ⟨l0,l1,l2,l3,l4,l5,l6,l7,l8,l9,l10,l11,l12⟩:=BR7.out.cells13;have zl:=BR7.out.lt;have zy:=BX7.out.lt;go_wp2_with fail
   refine wp_region_held_drew (S:=fun w'=>w'.cell? ⟨w4.heap.size,0,none⟩=some (.int .i64 x.id)/\w'.cell? ⟨w4.heap.size,1,none⟩=some (.int .i64 x.n)/\w'.cell? ⟨w4.heap.size,2,none⟩=some (.int .i64 x.s)/\w'.cell? ⟨w4.heap.size,3,none⟩=some (.slice (some ⟨bm4,0,none⟩) nm nm)/\w'.cell? ⟨w4.heap.size,4,none⟩=some (.int .i64 x.lost)/\w'.cell? ⟨w4.heap.size,5,none⟩=some (.int .i64 x.il)/\w'.cell? ⟨w4.heap.size,6,none⟩=some (.int .i64 x.seq)/\w'.cell? ⟨w4.heap.size,7,none⟩=some (.int .i64 x.tail)/\w'.cell? ⟨w4.heap.size,8,none⟩=some (.int .i64 x.gen)/\w'.cell? ⟨w4.heap.size,9,none⟩=some (.slice (some ⟨bd4,0,none⟩) nd nd)/\w'.cell? ⟨w4.heap.size,10,none⟩=some (.int .i64 x.io)/\w'.cell? ⟨w4.heap.size,11,none⟩=some (.bool x.down)/\w'.cell? ⟨w4.heap.size,12,none⟩=some (.bool x.im)/\w'.cell? ⟨w.heap.size,0,none⟩=some (.int .i64 x.id)/\w'.cell? ⟨w.heap.size,1,none⟩=some (.int .i64 x.n)/\w'.cell? ⟨w.heap.size,2,none⟩=some (.int .i64 x.s)/\w'.cell? ⟨w.heap.size,3,none⟩=some (.slice am nm cm)/\w'.cell? ⟨w.heap.size,4,none⟩=some (.int .i64 x.lost)/\w'.cell? ⟨w.heap.size,5,none⟩=some (.int .i64 x.il)/\w'.cell? ⟨w.heap.size,6,none⟩=some (.int .i64 x.seq)/\w'.cell? ⟨w.heap.size,7,none⟩=some (.int .i64 x.tail)/\w'.cell? ⟨w.heap.size,8,none⟩=some (.int .i64 x.gen)/\w'.cell? ⟨w.heap.size,9,none⟩=some (.slice ad nd cd)/\w'.cell? ⟨w.heap.size,10,none⟩=some (.int .i64 x.io)/\w'.cell? ⟨w.heap.size,11,none⟩=some (.bool x.down)/\w'.cell? ⟨w.heap.size,12,none⟩=some (.bool x.im)) (by kernel_rfl) ?_ (fun ik=>?_)
   . exact ⟨y0,y1,y2,y3,y4,y5,y6,y7,y8,y9,y10,y11,y12,l0,l1,l2,l3,l4,l5,l6,l7,l8,l9,l10,l11,l12⟩
   refine ah (i:=0) (v:=?_) rfl (by kernel_rfl) (by kernel_rfl) (by kernel_rfl) (fun _ _ _ h=>h) (by kernel_rfl) ?_ ik ?_
   rotate_left 1
   . (intro w hSw;(try dsimp only at hSw);go_split_ands;go_simp;first|done|with_reducible rfl)
   simp only [Act.put,List.setIfInBounds_toArray,List.set_cons_zero,List.set_cons_succ]
   refine ah (i:=1) (v:=?_) rfl (by kernel_rfl) (by kernel_rfl) (by kernel_rfl) (fun _ _ _ h=>h) (by kernel_rfl) ?_ ik ?_
   rotate_left 1
   . (intro w hSw;(try dsimp only at hSw);go_split_ands;go_simp;first|done|with_reducible rfl)
   simp only [Act.put,List.setIfInBounds_toArray,List.set_cons_zero,List.set_cons_succ]
   refine ag (i:=2) (by kernel_rfl) rfl (by kernel_rfl) (fun K hK=>?_)
   go_simp
   refine (de _ 119 78 81 x _ _ _ _ _ _ ms ds (h0.below B7.out).drew (h1.below B7.out).drew hwt').mono ?_
   rintro e w8 ⟨bm8,bd8,rfl,om8,od8,ya8,yb8,hb8⟩;have hb8':Below w7.heap.size w7 w8:=(Below.refl w7.heap.size w7).drew.trans hb8;go_wp2_with fail
   clear ik;refine hK.out _ _ ?_ (fun ik=>?_)
   . exact ⟨(hb8'.cell (p:=⟨w4.heap.size,0,none⟩) zy).trans y0,(hb8'.cell (p:=⟨w4.heap.size,1,none⟩) zy).trans y1,(hb8'.cell (p:=⟨w4.heap.size,2,none⟩) zy).trans y2,(hb8'.cell (p:=⟨w4.heap.size,3,none⟩) zy).trans y3,(hb8'.cell (p:=⟨w4.heap.size,4,none⟩) zy).trans y4,(hb8'.cell (p:=⟨w4.heap.size,5,none⟩) zy).trans y5,(hb8'.cell (p:=⟨w4.heap.size,6,none⟩) zy).trans y6,(hb8'.cell (p:=⟨w4.heap.size,7,none⟩) zy).trans y7,(hb8'.cell (p:=⟨w4.heap.size,8,none⟩) zy).trans y8,(hb8'.cell (p:=⟨w4.heap.size,9,none⟩) zy).trans y9,(hb8'.cell (p:=⟨w4.heap.size,10,none⟩) zy).trans y10,(hb8'.cell (p:=⟨w4.heap.size,11,none⟩) zy).trans y11,(hb8'.cell (p:=⟨w4.heap.size,12,none⟩) zy).trans y12,(hb8'.cell (p:=⟨w.heap.size,0,none⟩) zl).trans l0,(hb8'.cell (p:=⟨w.heap.size,1,none⟩) zl).trans l1,(hb8'.cell (p:=⟨w.heap.size,2,none⟩) zl).trans l2,(hb8'.cell (p:=⟨w.heap.size,3,none⟩) zl).trans l3,(hb8'.cell (p:=⟨w.heap.size,4,none⟩) zl).trans l4,(hb8'.cell (p:=⟨w.heap.size,5,none⟩) zl).trans l5,(hb8'.cell (p:=⟨w.heap.size,6,none⟩) zl).trans l6,(hb8'.cell (p:=⟨w.heap.size,7,none⟩) zl).trans l7,(hb8'.cell (p:=⟨w.heap.size,8,none⟩) zl).trans l8,(hb8'.cell (p:=⟨w.heap.size,9,none⟩) zl).trans l9,(hb8'.cell (p:=⟨w.heap.size,10,none⟩) zl).trans l10,(hb8'.cell (p:=⟨w.heap.size,11,none⟩) zl).trans l11,(hb8'.cell (p:=⟨w.heap.size,12,none⟩) zl).trans l12⟩
   clear hK K;refine ag (i:=3) (by kernel_rfl) rfl (by kernel_rfl) (fun K hK=>?_)
   go_simp
   refine (fJ _ 114 114 54 54 83 83 x _ _ _ _ _ _ _ _ _ _ _ _ ms ds (Dm7.out.below hb8').rd (Dd7.out.below hb8').rd om8.rd od8.rd hwt2).mono ?_
   rintro e w9 ⟨rfl,hb9⟩;have hb9':Below w7.heap.size w7 w9:=Below.andThen hb8' hb9;go_wp2_with fail
   clear ik;refine hK.out _ _ ?_ (fun ik=>?_)
   . exact ⟨(hb9'.cell (p:=⟨w4.heap.size,0,none⟩) zy).trans y0,(hb9'.cell (p:=⟨w4.heap.size,1,none⟩) zy).trans y1,(hb9'.cell (p:=⟨w4.heap.size,2,none⟩) zy).trans y2,(hb9'.cell (p:=⟨w4.heap.size,3,none⟩) zy).trans y3,(hb9'.cell (p:=⟨w4.heap.size,4,none⟩) zy).trans y4,(hb9'.cell (p:=⟨w4.heap.size,5,none⟩) zy).trans y5,(hb9'.cell (p:=⟨w4.heap.size,6,none⟩) zy).trans y6,(hb9'.cell (p:=⟨w4.heap.size,7,none⟩) zy).trans y7,(hb9'.cell (p:=⟨w4.heap.size,8,none⟩) zy).trans y8,(hb9'.cell (p:=⟨w4.heap.size,9,none⟩) zy).trans y9,(hb9'.cell (p:=⟨w4.heap.size,10,none⟩) zy).trans y10,(hb9'.cell (p:=⟨w4.heap.size,11,none⟩) zy).trans y11,(hb9'.cell (p:=⟨w4.heap.size,12,none⟩) zy).trans y12,(hb9'.cell (p:=⟨w.heap.size,0,none⟩) zl).trans l0,(hb9'.cell (p:=⟨w.heap.size,1,none⟩) zl).trans l1,(hb9'.cell (p:=⟨w.heap.size,2,none⟩) zl).trans l2,(hb9'.cell (p:=⟨w.heap.size,3,none⟩) zl).trans l3,(hb9'.cell (p:=⟨w.heap.size,4,none⟩) zl).trans l4,(hb9'.cell (p:=⟨w.heap.size,5,none⟩) zl).trans l5,(hb9'.cell (p:=⟨w.heap.size,6,none⟩) zl).trans l6,(hb9'.cell (p:=⟨w.heap.size,7,none⟩) zl).trans l7,(hb9'.cell (p:=⟨w.heap.size,8,none⟩) zl).trans l8,(hb9'.cell (p:=⟨w.heap.size,9,none⟩) zl).trans l9,(hb9'.cell (p:=⟨w.heap.size,10,none⟩) zl).trans l10,(hb9'.cell (p:=⟨w.heap.size,11,none⟩) zl).trans l11,(hb9'.cell (p:=⟨w.heap.size,12,none⟩) zl).trans l12⟩
   clear hK K;refine ah (i:=4) (v:=?_) rfl (by kernel_rfl) (by kernel_rfl) (by kernel_rfl) (fun _ _ _ h=>h) (by kernel_rfl) ?_ ik ?_
   rotate_left 1
   . (intro w hSw;(try dsimp only at hSw);go_split_ands;go_simp;first|done|with_reducible rfl)
   simp only [Act.put,List.setIfInBounds_toArray,List.set_cons_zero,List.set_cons_succ]
   refine wpAnyH_done (by kernel_rfl) ?_ _
   clear ik;clear y0 y1 y2 y3 y4 y5 y6 y7 y8 y9 y10 y11 y12 l0 l1 l2 l3 l4 l5 l6 l7 l8 l9 l10 l11 l12;clear zl zy om8 od8 ya8 yb8 hb8 hb9 hb8';have B9:=ab (Below.andThen B7.out hb9');have BR9:=ab (BR7.out.below hb9' (by omega));have W9:=ab (W7.out.below hb9');have Dm9:=ab (Dm7.out.below hb9');have Dd9:=ab (Dd7.out.below hb9');have BX9:=ab (BX7.out.below hb9' (by omega));have G9:=ab (G7.out.below hb9');have z9:=hb9'.size;clear B7 BR7 W7 Dm7 Dd7 BX7 G7 hb9';obtain ⟨q0,q1,q2,q3,q4,q5,q6,q7,q8,q9,q10,q11,q12⟩:=BX9.out.cells13;go_wp2_with fail
   refine (fh _ _ _ _ x _ _ _ _ _ _ ms ds Dm9.out Dd9.out (by omega) (by omega) (by omega) hwt2).mono ?_
   rintro e w10 ⟨rfl,_,_,hb10⟩;clear q0 q1 q2 q3 q4 q5 q6 q7 q8 q9 q10 q11 q12;clear Dm9;clear Dd9;clear BX9;have B10:=ab (Below.andBut B9.out hb10 (by omega));have BR10:=ab (BR9.out.kept (hb10.block _ (by omega) (by omega)));have W10:=ab (W9.out.but hb10 (by omega));have G10:=ab (G9.out.but hb10 (by omega));have z10:=hb10.size;clear B9 BR9 W9 G9 hb10;have hcn:(0:Int)<=1+(dA ms:Int)+(bF ds:Int):=by omega
   generalize 1+(dA ms:Int)+(bF ds:Int)=cn at hcn ⊢;go_wp2_with fail
   refine (bu _ _ _ _ _ _ _ ps ps HN.out HN.out (ap G10.out.rd).1 (ap W10.out.rd).1 (by omega)).mono ?_
   rintro e w11 ⟨rfl,hs11⟩;have B11:=ab (Below.andSame B10.out hs11);have BR11:=ab (BR10.out.same hs11);have W11:=ab (W10.out.same hs11);have G11:=ab (G10.out.same hs11);have z11:=Nat.le_of_eq hs11.size.symm;clear B10 BR10 W10 G10 hs11;go_wp2_with fail
   obtain ⟨fpG,mG,rG⟩:=G11.out.mine;refine (bT _ _ _ _ ps _ fpG mG (by omega) (by omega) (by omega)).mono ?_
   rintro e w12 ⟨rfl,m12,t12⟩;clear G11;have hb12:=t12.but rG;have g12:=m12.own rG;clear mG m12 t12 rG;have B12:=ab (Below.andBut B11.out hb12 (by omega));have BR12:=ab (BR11.out.kept (hb12.block _ (by omega) (by omega)));have W12:=ab (W11.out.but hb12 (by omega));have z12:=hb12.size;clear B11 BR11 W11 hb12;have G12:=ab g12;clear g12;go_wp2_with fail
   refine (dx _ _ _ _ _ (ap G12.out.rd).1 (by omega) (by omega) (by omega)).mono ?_
   rintro e w13 ⟨rfl,hs13⟩;have B13:=ab (Below.andSame B12.out hs13);have BR13:=ab (BR12.out.same hs13);have W13:=ab (W12.out.same hs13);have G13:=ab (G12.out.same hs13);have z13:=Nat.le_of_eq hs13.size.symm;clear B12 BR12 W12 G12 hs13;obtain ⟨l0,l1,l2,l3,l4,l5,l6,l7,l8,l9,l10,l11,l12⟩:=BR13.out.cells13;go_wp2_with fail
   refine (de _ 119 78 81 x _ _ _ _ _ _ ms ds (h0.below B13.out) (h1.below B13.out) hwt').mono ?_
   rintro e w14 ⟨bm14,bd14,rfl,om14,od14,ya14,yb14,hb14⟩;clear l0 l1 l2 l3 l4 l5 l6 l7 l8 l9 l10 l11 l12;have B14:=ab (Below.andThen B13.out hb14);have BR14:=ab (BR13.out.below hb14 (by omega));have W14:=ab (W13.out.below hb14);have G14:=ab (G13.out.below hb14);have z14:=hb14.size;clear B13 BR13 W13 G13 hb14;have Dm14:=ab om14;clear om14;have Dd14:=ab od14;clear od14;go_wp2_with fail
   refine (dp _ 114 54 83 x _ _ _ _ _ _ ms ds s Dm14.out.rd Dd14.out.rd hwt2).mono ?_
   rintro e w15 ⟨a15,l15,c15,rfl,o15,hb15⟩;rw [HOK.out];obtain ⟨rfl,o15'⟩:=ef o15 HP.out HN.out;clear o15;have B15:=ab (Below.andThen B14.out hb15);have BR15:=ab (BR14.out.below hb15 (by omega));have W15:=ab (W14.out.below hb15);have G15:=ab (G14.out.below hb15);have Dm15:=ab (Dm14.out.below hb15);have Dd15:=ab (Dd14.out.below hb15);have z15:=hb15.size;clear B14 BR14 W14 G14 Dm14 Dd14 hb15;have H15:=ab o15';clear o15';clear Dm15;clear Dd15;go_wp2_with fail
   refine (bu _ _ _ _ _ _ _ ps ps HN.out HN.out (ap H15.out.rd).1 (ap W15.out.rd).1 (by omega)).mono ?_
   rintro e w16 ⟨rfl,hs16⟩;have B16:=ab (Below.andSame B15.out hs16);have BR16:=ab (BR15.out.same hs16);have W16:=ab (W15.out.same hs16);have G16:=ab (G15.out.same hs16);have H16:=ab (H15.out.same hs16);have z16:=Nat.le_of_eq hs16.size.symm;clear B15 BR15 W15 G15 H15 hs16;clear H16;clear W16;go_wp2_with fail
   refine (dx _ _ _ _ _ (ap G16.out.rd).1 (by omega) (by omega) (by omega)).mono ?_
   rintro e w17 ⟨rfl,hs17⟩;have B17:=ab (Below.andSame B16.out hs17);have BR17:=ab (BR16.out.same hs17);have G17:=ab (G16.out.same hs17);have z17:=Nat.le_of_eq hs17.size.symm;clear B16 BR16 G16 hs17;go_wp2
   go_ret
   exact ⟨rfl,B17.out⟩
 have hq:=ao (left:=1048576) (wt:=bc ms ds) (by omega);go_wp2
 go_ret
 exact ⟨rfl,B1.out⟩
end Go.Proofs.Ytfimpohbpccjaaa

namespace Go.Proofs.Ytfimpohbpccjaaa.fnExactWords
open Go.ChangeShapes Go.WideShapes Go.ChangeAt Go.RowKit Go.Joins
open Go.ChangeMaps (open_string shut_string)
set_option linter.unusedVariables false
theorem own:ownKnob Try.prog.godebug=none:=by kernel_rfl
theorem gj:laidOutB Try.prog=true:=by kernel_rfl
theorem lifted (os:Os) (started:os.Started) (H:Type) (enc:TypeId×Value->H):
 ReturnsInHanded {} Try.checked os 4 .any (Rows.fnExactWordsSpec.pre6 enc Try.prog Try.f4 Rows.fnExactWordsRow.domain false) (Rows.fnExactWordsSpec.post enc Try.prog Try.f4 false true false false):=by
 refine returnsInHanded_of_change (C:=Try.checked) own started (by kernel_rfl) Try.func4
  (ChangeSpec.witness6 (enc:=enc) (C:=Try.checked) false ⟨#[],#[.agg #[.int .i64 0,.int .i64 0,.int .i64 0,.slice none 0 0,.int .i64 0,.int .i64 0,.int .i64 0,.int .i64 0,.int .i64 0,.slice none 0 0,.int .i64 0,.bool false,.bool false],.int .i64 0],[]⟩ 8 (by kernel_rfl) (by kernel_rfl) (by kernel_rfl) (by kernel_rfl)) ?_
 intro W base args ds gs before hval0 hW hcnd _;have hval:∀(j:Nat) t v,Try.f4.params[j]?=some t->args[j]?=some v->Value.okWide Try.prog W .any base t v:=hval0;have hW':=hW;obtain ⟨p,q,hA0,hV,rfl,hfz,hnd⟩:=hW;have hA:DataW.TrodAll enc Try.prog W 0 (fun _=>true) true Try.f4.params.toList args.toList ds p:=hA0;rw [Try.params4] at hA hval;obtain ⟨v0,vs0,d0,ds0,p0,q0,hargs0,rfl,rfl,h0,r0⟩:=trodAll_cons hA;obtain ⟨v1,vs1,d1,ds1,p1,q1,hargs1,rfl,rfl,h1,r1⟩:=trodAll_cons r0;obtain ⟨rfl,rfl,rfl⟩:=trodAll_nil r1;obtain rfl:args=#[v0,v1]:=by cases args;simp_all
 obtain ⟨rfl,rfl⟩:=trodVars_none hV;have k0:=h0;have lt0:∀x∈p0,x.block<W.heap.size:=by obtain ⟨m,hm⟩:=k0;exact DataW.trod_lt m _ _ _ hm
 obtain ⟨x0,am0,ad0,cm0,cd0,ms0,ds0,rfl,g0m,g0d⟩:=hH (hval 0 27 v0 rfl rfl) h0;have k1:=h1;have lt1:∀x∈p1,x.block<W.heap.size:=by obtain ⟨m,hm⟩:=k1;exact DataW.trod_lt m _ _ _ hm
 obtain ⟨x1,hv1,_,_,wf1⟩:=open_int Try.underlying3 (hval 1 3 v1 rfl rfl) h1;subst hv1;clear hA0 hval0;refine (dB x0 am0 ad0 ms0.length cm0 ds0.length cd0 ms0 ds0 x1 W g0m g0d).mono fun e W' ⟨he,bel⟩=>?_
 subst he;exact ⟨_,rfl,_,_,_,[],_,[],hW',trodAll_mk1 (shut_bool Try.underlying4 _),(trodAll_cons_mk (Below.trod gj (by kernel_rfl) (of_decide_eq_true (by kernel_rfl)) k0 bel lt0) (trodAll_cons_mk (Below.trod gj (by kernel_rfl) (of_decide_eq_true (by kernel_rfl)) k1 bel lt1) trodAll_mk0)),rfl,bel.frame _,fun h=>by cases h⟩
theorem over:Rows.fnExactWordsRow.holds Try.pinned (OpenSpec.ofChange Rows.fnExactWordsSpec):=
 OpenClaim.holds_of_wide 4 Try.f4 rfl rfl rfl rfl rfl rfl rfl ⟨rfl,rfl,rfl,rfl,rfl⟩ rfl rfl rfl rfl rfl (by kernel_rfl) Try.func4 (by kernel_rfl)
  (of_decide_eq_true (by kernel_rfl)) (by unfold Func.isWrapper;first|(rw [if_pos (by decide +kernel)];kernel_rfl)|(rw [if_neg (by decide +kernel)];exact ⟨rfl,rfl⟩))
  (fun os started H enc _=>lifted os started H enc)
end Go.Proofs.Ytfimpohbpccjaaa.fnExactWords
namespace Go.Proofs.Ytfimpohbpccjaaa
theorem fnExactWords_holds:Rows.FnExactWordsSaid:=fnExactWords.over
#print axioms fnExactWords_holds
end Go.Proofs.Ytfimpohbpccjaaa

