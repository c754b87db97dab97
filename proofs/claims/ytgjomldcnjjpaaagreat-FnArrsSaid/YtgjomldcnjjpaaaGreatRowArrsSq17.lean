/-
 The walk of sameArr of package laws: arrays that read alike. Condition: they weigh at most 2097152.
-/
import Derived.Test.YtgjomldcnjjpaaaGreatRowArrsSq10
import Derived.Test.YtgjomldcnjjpaaaGreatRowArrsSq3
import Derived.Test.YtgjomldcnjjpaaaGreatRowArrsSq2
import Derived.Test.YtgjomldcnjjpaaaGreatRowArrsSq13
import Derived.Deep.RegionHeld3
import Derived.Test.YtgjomldcnjjpaaaGreatRowArrsSq1

set_option maxRecDepth 100000
set_option maxHeartbeats 8000000
set_option linter.unusedSimpArgs false

namespace Go.Proofs.YtgjomldcnjjpaaaGreat
open Go.RowKit

theorem mO (w:World) (a:Option Addr) (len cap:Nat) (zs:List Int) (n:Int) (hz:zs.length=len) (hr:aJ .i64 w a zs) (hlen:len<=2097152):
 Calls Tryz.prog 153 #[.slice a len cap,.int .i64 n] w fun e w'=>∃r:Int,e=.returned (.int .i64 r)/\decide (0<=r)=inL zs n/\aP w w':=by
 go_enter Tryz.func153,Tryz.ntmps153
 go_wp2
 go_loop [8] (fun i=>∃j:Nat,j<=len/\i=.int .i64 j/\inL (zs.take j) n=false) (fun i=>len-(intOf i).toNat)
 case atStart=>exact ⟨0,Nat.zero_le _,rfl,rfl⟩
 obtain ⟨j,hj,rfl,ht⟩:=hrel;by_cases hlt:j<len
 . rcases hr.cases with h0|⟨b,off,rfl,hbl,hc⟩
   . omega
   have hc1:=hc j (by omega);have hd:=ry (zs:=zs) (n:=n) (j:=j) (by omega) rfl;generalize zs.getD j 0=x at hc1 hd;have HT:=aa ht;clear hc ht;by_cases hx:x=n
   . have HD:=aa (hd.1 hx)
     subst hx;clear hd;go_wp2
     go_ret
     exact ⟨_,rfl,by rw [HD.out];simp,aP.refl _⟩
   have HD:=aa (hd.2 hx HT.out);have hx':¬n=x:=fun e=>hx e.symm;clear hd;go_wp2
   go_round
   case rel=>exact ⟨j+1,by omega,by go_num,HD.out⟩
   case measure=>simp [intOf];omega
 go_wp2
 go_ret
 have e:j=len:=by omega
 subst e;rw [List.take_of_length_le (by omega)] at ht;exact ⟨_,rfl,by rw [ht];rfl,aP.refl _⟩
theorem gJ (w:World) (a:Option Addr) (len cap:Nat) (zs:List Int) (n:Int) (hz:zs.length=len) (hr:aJ .i64 w a zs) (hlen:len<=2097152):
 Calls Tryz.prog 140 #[.slice a len cap,.int .i64 n] w fun e w'=>e=.returned (.bool (inL zs n))/\aP w w':=by
 go_enter Tryz.func140,Tryz.ntmps140
 go_wp2_with fail
 refine (mO _ _ _ _ zs n hz hr hlen).mono ?_
 rintro e w1 ⟨r,rfl,hr1,hs1⟩;go_wp2
 go_ret
 exact ⟨ah (by rw [←hr1]),hs1⟩
theorem iU (w:World) (E:TypeId) (a0 a1 a3:Option Addr) (n0 c0 n1 c1 n3 c3:Nat) (ss:List (List Int)) (cs:List (Int×List Int)) (f:Bool) (bs:List Int) (n:Int) (h0:aU.Rd w [.slice a0 n0 c0] ss) (h1:(aW E).Rd w [.slice a1 n1 c1] cs) (h3:aD.Rd w [.slice a3 n3 c3] bs) (hw:aM (ss,cs,f,bs)<=2097152):
 Calls Tryz.prog 122 #[.agg #[.slice a0 n0 c0,.slice a1 n1 c1,.bool f,.slice a3 n3 c3],.int .i64 n] w fun e w'=>∃a' l c',e=.returned (.tuple #[.slice a' l c',.bool (aV ss cs f bs n)])/\aD.Own w' w.heap.size w'.heap.size [.slice a' l c'] (bp ss cs f bs n)/\Below w.heap.size w w':=by
 obtain ⟨hl0,_,hm0⟩:=ag h0;obtain ⟨hl1,_,hm1⟩:=ag h1;obtain ⟨hl3,_,hm3⟩:=ag h3;have hw3:n3<=2097152:=by unfold aM at hw;simp only at hw;omega
 have hw0:cA ss<=2097152:=by unfold aM at hw;simp only at hw;omega
 have hw1:aX cs<=2097152:=by unfold aM at hw;simp only at hw;omega
 have hn0:n0<=2097152:=by unfold cA at hw0;omega
 have hn1:n1<=2097152:=by unfold aX at hw1;omega
 have hA:Below w.heap.size w (w.alloc (.cells #[.slice a0 n0 c0,.slice a1 n1 c1,.bool f,.slice a3 n3 c3] 55)):=(Below.refl _ _).alloc (Nat.le_refl _) _;have xm:=Box.new w 55 #[.slice a0 n0 c0,.slice a1 n1 c1,.bool f,.slice a3 n3 c3];have g0:=h0.below hA;have g1:=h1.below hA;have g3:=h3.below hA;obtain ⟨q0,q1,q2,q3⟩:=xm.cells4;have zm:=xm.lt;have fin:∀w1,Below w.heap.size w w1->aD.Own (w1.alloc (.cells #[] 3)) w.heap.size (w1.alloc (.cells #[] 3)).heap.size [.slice (some ⟨w1.heap.size,0,none⟩) 0 0] []/\Below w.heap.size w (w1.alloc (.cells #[] 3)):=by
  intro w1 hb;have hs:=hb.size;exact ⟨(aS (bk.lit .i64 3 w1 [] 0 #[] rfl rfl (by unfold maxLen;omega))).widen hs (Nat.le_refl _),hb.alloc hb.size _⟩
 by_cases hM:bF ss cs bs=true
 . by_cases hf:f=true
   . subst hf
     have hro:aV ss cs true bs n=false:=by unfold aV;rw [hM];rfl
     have hrd:bp ss cs true bs n=[]:=by unfold bp;rw [hro];rfl
     rw [hro,hrd];clear hro hrd;go_enter Tryz.func122,Tryz.ntmps122
     go_wp2_with fail
     generalize hW:w.alloc (.cells #[.slice a0 n0 c0,.slice a1 n1 c1,.bool true,.slice a3 n3 c3] 55)=W at hA g0 g1 g3 q0 q1 q2 q3 zm ⊢;clear hW xm;refine (bG _ E _ _ _ _ _ _ _ _ _ ss cs true bs g0 g1 g3 hw).mono ?_
     rintro e w1 ⟨rfl,b1⟩;have r0:=(b1.cell (p:=⟨w.heap.size,0,none⟩) zm).trans q0;have r1:=(b1.cell (p:=⟨w.heap.size,1,none⟩) zm).trans q1;have r2:=(b1.cell (p:=⟨w.heap.size,2,none⟩) zm).trans q2;have r3:=(b1.cell (p:=⟨w.heap.size,3,none⟩) zm).trans q3;have B1:=Below.andThen hA b1;have z1:=Nat.lt_of_lt_of_le zm b1.size;clear q0 q1 q2 q3;go_wp2
     go_ret2
     exact ⟨_,_,_,rfl,(fin _ B1).1,(fin _ B1).2⟩
   have hf:f=false:=by simpa using hf
   subst hf;by_cases hI:inB n 0 ((n0:Int)-1)=true
   . by_cases hB:inL bs n=true
     . have hro:aV ss cs false bs n=false:=by unfold aV;rw [hM,hl0,hI,hB];rfl
       have hrd:bp ss cs false bs n=[]:=by unfold bp;rw [hro];rfl
       rw [hro,hrd];clear hro hrd;go_enter Tryz.func122,Tryz.ntmps122
       go_wp2_with fail
       generalize hW:w.alloc (.cells #[.slice a0 n0 c0,.slice a1 n1 c1,.bool false,.slice a3 n3 c3] 55)=W at hA g0 g1 g3 q0 q1 q2 q3 zm ⊢;clear hW xm;refine (bG _ E _ _ _ _ _ _ _ _ _ ss cs false bs g0 g1 g3 hw).mono ?_
       rintro e w1 ⟨rfl,b1⟩;have r0:=(b1.cell (p:=⟨w.heap.size,0,none⟩) zm).trans q0;have r1:=(b1.cell (p:=⟨w.heap.size,1,none⟩) zm).trans q1;have r2:=(b1.cell (p:=⟨w.heap.size,2,none⟩) zm).trans q2;have r3:=(b1.cell (p:=⟨w.heap.size,3,none⟩) zm).trans q3;have B1:=Below.andThen hA b1;have z1:=Nat.lt_of_lt_of_le zm b1.size;clear q0 q1 q2 q3;go_wp2_with fail
       refine (di _ _ _ _ _ _ _ _).mono ?_
       rintro e w2 ⟨rfl,b2⟩;have t0:=(b2.cell (p:=⟨w.heap.size,0,none⟩) z1).trans r0;have t1:=(b2.cell (p:=⟨w.heap.size,1,none⟩) z1).trans r1;have t3:=(b2.cell (p:=⟨w.heap.size,3,none⟩) z1).trans r3;have B2:=Below.andThen B1 b2;have z2:=Nat.lt_of_lt_of_le z1 b2.size;have k3:=g3.below (Below.andThen b1 b2);clear r0 r1 r2 r3;go_wp2_with fail
       refine (gJ _ _ _ _ bs _ hl3 (aR k3).1 hw3).mono ?_
       rintro e w3 ⟨rfl,s3⟩;have B3:=Below.andSame B2 s3;go_wp2
       go_ret2
       exact ⟨_,_,_,rfl,(fin _ B3).1,(fin _ B3).2⟩
     have hB:inL bs n=false:=by simpa using hB
     have hro:aV ss cs false bs n=true:=by unfold aV;rw [hM,hl0,hI,hB];rfl
     have hrd:bp ss cs false bs n=(cB cs n).getD (iw ss n):=by unfold bp;rw [hro];rfl
     rw [hro,hrd];clear hro hrd;have hI':0<=n/\n<=(n0:Int)-1:=by unfold inB at hI;simpa using hI
     obtain ⟨k,rfl⟩:∃k:Nat,n=(k:Int):=⟨n.toNat,by omega⟩;have hk:k<n0:=by omega
     go_enter Tryz.func122,Tryz.ntmps122
     go_wp2_with fail
     generalize hW:w.alloc (.cells #[.slice a0 n0 c0,.slice a1 n1 c1,.bool false,.slice a3 n3 c3] 55)=W at hA g0 g1 g3 q0 q1 q2 q3 zm ⊢;clear hW xm;refine (bG _ E _ _ _ _ _ _ _ _ _ ss cs false bs g0 g1 g3 hw).mono ?_
     rintro e w1 ⟨rfl,b1⟩;have r0:=(b1.cell (p:=⟨w.heap.size,0,none⟩) zm).trans q0;have r1:=(b1.cell (p:=⟨w.heap.size,1,none⟩) zm).trans q1;have r2:=(b1.cell (p:=⟨w.heap.size,2,none⟩) zm).trans q2;have r3:=(b1.cell (p:=⟨w.heap.size,3,none⟩) zm).trans q3;have B1:=Below.andThen hA b1;have z1:=Nat.lt_of_lt_of_le zm b1.size;clear q0 q1 q2 q3;go_wp2_with fail
     refine (di _ _ _ _ _ _ _ _).mono ?_
     rintro e w2 ⟨rfl,b2⟩;have t0:=(b2.cell (p:=⟨w.heap.size,0,none⟩) z1).trans r0;have t1:=(b2.cell (p:=⟨w.heap.size,1,none⟩) z1).trans r1;have t3:=(b2.cell (p:=⟨w.heap.size,3,none⟩) z1).trans r3;have B2:=Below.andThen B1 b2;have z2:=Nat.lt_of_lt_of_le z1 b2.size;have k3:=g3.below (Below.andThen b1 b2);clear r0 r1 r2 r3;go_wp2_with fail
     refine (gJ _ _ _ _ bs _ hl3 (aR k3).1 hw3).mono ?_
     rintro e w3 ⟨rfl,s3⟩;have B3:=Below.andSame B2 s3;have m0:=(s3.cell _).trans t0;have m1:=(s3.cell _).trans t1;have b3:=Below.andSame (Below.andThen b1 b2) s3;have y1:=g1.below b3;rcases hJ rfl g0 with h0'|⟨b,off,rfl,hbl,hcs⟩
     . omega
     have hdj:ss[k]?=some (ss[k]'(by omega)):=List.getElem?_eq_getElem (by omega);generalize ss[k]'(by omega)=x at hdj;have hil:=eZ hdj;obtain ⟨v,hv,hrv⟩:=hcs k x hdj;obtain ⟨av,cv,rfl⟩:=aC hrv;have mv:=(b3.cell (p:=⟨b,off+k,none⟩) hbl).trans hv;have hrx:=hrv.below b3;have hgx:iw ss (k:Int)=x:=by unfold iw;rw [Int.toNat_natCast,List.getD_eq_getElem?_getD,hdj];rfl
     have HGX:=aa hgx;have HX:=aa hrx;have HB3:=aa B3;have i1:(0:Int)<=(k:Int):=by omega
     have i2:(k:Int)<(n0:Int):=by omega
     have zb3:b<w3.heap.size:=Nat.lt_of_lt_of_le hbl b3.size;have z3:w.heap.size<w3.heap.size:=Nat.lt_of_lt_of_le zm b3.size;have hwr:=jI hM;have hk20:=iZ hM;clear hcs hdj hv hrv hgx hrx B3 b3 t0 t1 t3 g0 g1 g3 k3 B1 B2 b1 b2 s3 hA fin hB hI hI' hM;go_wp2_with fail
     refine (sM _ E _ _ _ cs y1 hn1 hwr).mono ?_
     rintro e w4 ⟨rfl,b4,D,hown,hL⟩;have n0':=(b4.cell (p:=⟨w.heap.size,0,none⟩) z3).trans m0;have nv:=(b4.cell (p:=⟨b,off+k,none⟩) zb3).trans mv;have HB4:=aa (Below.andThen HB3.out b4);have HX4:=aa (HX.out.below b4);have HOW:=aa hown;have HL:=aa hL;have HKEY:=aa (tM (q:=(k:Int)) (by omega) (by omega));have B4L:=aa b4;clear m0 m1 mv b4 hown hL y1 HB3 HX;cases hlw:cB cs (k:Int) with
     | none=>
      have HZ:Hid ((cB cs (k:Int)).getD (iw ss (k:Int))=x):=by unfold Hid;rw [hlw,HGX.out];rfl
      have HLW:=aa hlw;clear hlw;have hX:Below w4.heap.size w4 (w4.alloc (.cells #[.int .i64 0,.slice none 0 0] 119)):=(Below.refl _ _).alloc (Nat.le_refl _) _;have z4:=HB4.out.size;have z34:=B4L.out.size;have p0:=(hX.cell (p:=⟨w.heap.size,0,none⟩) (by simp only;omega)).trans n0';have pv:=(hX.cell (p:=⟨b,off+k,none⟩) (by simp only;omega)).trans nv;have HX5:=aa (HX4.out.below hX);have HB5:=aa (Below.andThen HB4.out hX);clear hX;go_wp2_with (at_lookup;refine ur rfl _ _ rfl w3.heap.size n1 D w3 cs (k:Int) rfl HOW.out rfl HKEY.out HL.out HLW.out ?_)
      refine (bP _ _ _ _ x HX5.out (by omega)).mono ?_
      rintro e w5 ⟨a5,c5,rfl,o5,b5⟩;have hsz:=HB5.out.size;go_wp2
      go_ret2
      exact ⟨_,_,_,rfl,by rw [HZ.out];exact o5.widen hsz (Nat.le_refl _),Below.andThen HB5.out b5⟩
     | some zs=>
      have HZ:Hid ((cB cs (k:Int)).getD (iw ss (k:Int))=zs):=by unfold Hid;rw [hlw];rfl
      have HLW:=aa hlw;have hzl:zs.length<=2097152:=nn hw1 hlw;clear hlw;go_wp2_with (at_lookup;refine uo rfl _ _ rfl w3.heap.size n1 D w3 cs (k:Int) zs rfl HOW.out rfl HKEY.out HL.out HLW.out ?_;intro a9 c9 h9;have H9:=aa (h9.below B4L.out);clear h9)
      have hX:Below w4.heap.size w4 (w4.alloc (.cells #[.int .i64 (k:Int),.slice a9 zs.length c9] 119)):=(Below.refl _ _).alloc (Nat.le_refl _) _;have HB5:=aa (Below.andThen HB4.out hX);refine (bP _ _ _ _ zs (H9.out.below hX) (by omega)).mono ?_
      rintro e w5 ⟨a5,c5,rfl,o5,b5⟩;have hsz:=HB5.out.size;go_wp2
      go_ret2
      exact ⟨_,_,_,rfl,by rw [HZ.out];exact o5.widen hsz (Nat.le_refl _),Below.andThen HB5.out b5⟩
   have hI:inB n 0 ((n0:Int)-1)=false:=by simpa using hI
   have hro:aV ss cs false bs n=false:=by unfold aV;rw [hM,hl0,hI];rfl
   have hrd:bp ss cs false bs n=[]:=by unfold bp;rw [hro];rfl
   rw [hro,hrd];clear hro hrd;go_enter Tryz.func122,Tryz.ntmps122
   go_wp2_with fail
   generalize hW:w.alloc (.cells #[.slice a0 n0 c0,.slice a1 n1 c1,.bool false,.slice a3 n3 c3] 55)=W at hA g0 g1 g3 q0 q1 q2 q3 zm ⊢;clear hW xm;refine (bG _ E _ _ _ _ _ _ _ _ _ ss cs false bs g0 g1 g3 hw).mono ?_
   rintro e w1 ⟨rfl,b1⟩;have r0:=(b1.cell (p:=⟨w.heap.size,0,none⟩) zm).trans q0;have r1:=(b1.cell (p:=⟨w.heap.size,1,none⟩) zm).trans q1;have r2:=(b1.cell (p:=⟨w.heap.size,2,none⟩) zm).trans q2;have r3:=(b1.cell (p:=⟨w.heap.size,3,none⟩) zm).trans q3;have B1:=Below.andThen hA b1;have z1:=Nat.lt_of_lt_of_le zm b1.size;clear q0 q1 q2 q3;go_wp2_with fail
   refine (di _ _ _ _ _ _ _ _).mono ?_
   rintro e w2 ⟨rfl,b2⟩;have t0:=(b2.cell (p:=⟨w.heap.size,0,none⟩) z1).trans r0;have t1:=(b2.cell (p:=⟨w.heap.size,1,none⟩) z1).trans r1;have t3:=(b2.cell (p:=⟨w.heap.size,3,none⟩) z1).trans r3;have B2:=Below.andThen B1 b2;have z2:=Nat.lt_of_lt_of_le z1 b2.size;have k3:=g3.below (Below.andThen b1 b2);clear r0 r1 r2 r3;go_wp2
   go_ret2
   exact ⟨_,_,_,rfl,(fin _ B2).1,(fin _ B2).2⟩
 have hM:bF ss cs bs=false:=by simpa using hM
 have hro:aV ss cs f bs n=false:=by unfold aV;rw [hM];rfl
 have hrd:bp ss cs f bs n=[]:=by unfold bp;rw [hro];rfl
 rw [hro,hrd];clear hro hrd;go_enter Tryz.func122,Tryz.ntmps122
 go_wp2_with fail
 generalize hW:w.alloc (.cells #[.slice a0 n0 c0,.slice a1 n1 c1,.bool f,.slice a3 n3 c3] 55)=W at hA g0 g1 g3 q0 q1 q2 q3 zm ⊢;clear hW xm;refine (bG _ E _ _ _ _ _ _ _ _ _ ss cs f bs g0 g1 g3 hw).mono ?_
 rintro e w1 ⟨rfl,b1⟩;have r0:=(b1.cell (p:=⟨w.heap.size,0,none⟩) zm).trans q0;have r1:=(b1.cell (p:=⟨w.heap.size,1,none⟩) zm).trans q1;have r2:=(b1.cell (p:=⟨w.heap.size,2,none⟩) zm).trans q2;have r3:=(b1.cell (p:=⟨w.heap.size,3,none⟩) zm).trans q3;have B1:=Below.andThen hA b1;have z1:=Nat.lt_of_lt_of_le zm b1.size;clear q0 q1 q2 q3;go_wp2
 go_ret2
 exact ⟨_,_,_,rfl,(fin _ B1).1,(fin _ B1).2⟩
theorem pM (w:World) (E E' F F':TypeId) (a b:Option Addr) (la lb ca cb:Nat) (d:List ai) (h:(bI E F).Rd w [.slice a la ca] d) (h':(bI E' F').Rd w [.slice b lb cb] d) (hw:aQ d<=2097152):
 Calls Tryz.prog 40 #[.slice a la ca,.slice b lb cb] w fun e w'=>e=.returned (.bool true)/\Below w.heap.size w w':=by
 obtain ⟨hl,hc,hm⟩:=ag h;obtain ⟨hl',hc',hm'⟩:=ag h';have hla:la<=2097152:=by unfold aQ at hw;omega
 have hlen:la=lb:=by omega
 subst hlen;go_enter Tryz.func40,Tryz.ntmps40
 go_wp2
 go_loopw [5] (fun i wr=>∃j:Nat,j<=la/\i=.int .i64 j/\Below w.heap.size w wr) (fun i _=>la-(intOf i).toNat)
 case atStart=>exact ⟨0,Nat.zero_le _,rfl,Below.refl _ _⟩
 obtain ⟨j,hj,rfl,hb⟩:=hrel;by_cases hjn:j<la
 . rcases eb rfl h with h0'|⟨bx,ox,rfl,hbx,hcx⟩
   . omega
   rcases eb rfl h' with h0'|⟨bY,oy,rfl,hby,hcy⟩
   . omega
   have hdj:d[j]?=some (d[j]'(by omega)):=List.getElem?_eq_getElem (by omega);generalize d[j]'(by omega)=x at hdj;have hil:=Nat.le_trans (ei hdj) hw;obtain ⟨v0,v1,v2,v3,hv0,hv1,hv2,hv3,hrv⟩:=hcx j x hdj;obtain ⟨u0,u1,u2,u3,hu0,hu1,hu2,hu3,hru⟩:=hcy j x hdj;obtain ⟨a0,c0,a1,c1,a3,c3,ss,cs,f,bs,rfl,rfl,rfl,rfl,rfl,p0,p1,p3⟩:=fV hrv;obtain ⟨b0,d0,b1,d1,b3,d3,ss',cs',f',bs',hxx,rfl,rfl,rfl,rfl,s0,s1,s3⟩:=fV hru;obtain ⟨rfl,rfl,rfl,rfl⟩:ss=ss'/\cs=cs'/\f=f'/\bs=bs':=by simpa using hxx
   have hx0:=(hb.cell (p:=⟨bx,ox+j*4,none⟩) hbx).trans hv0;have hx1:=(hb.cell (p:=⟨bx,ox+j*4+1,none⟩) hbx).trans hv1;have hx2:=(hb.cell (p:=⟨bx,ox+j*4+2,none⟩) hbx).trans hv2;have hx3:=(hb.cell (p:=⟨bx,ox+j*4+3,none⟩) hbx).trans hv3;have hy0:=(hb.cell (p:=⟨bY,oy+j*4,none⟩) hby).trans hu0;have hy1:=(hb.cell (p:=⟨bY,oy+j*4+1,none⟩) hby).trans hu1;have hy2:=(hb.cell (p:=⟨bY,oy+j*4+2,none⟩) hby).trans hu2;have hy3:=(hb.cell (p:=⟨bY,oy+j*4+3,none⟩) hby).trans hu3;have zx:bx<wr.heap.size:=Nat.lt_of_lt_of_le hbx hb.size;have zy:bY<wr.heap.size:=Nat.lt_of_lt_of_le hby hb.size;have i1:(0:Int)<=(j:Int):=by omega
   have i2:(j:Int)<(la:Int):=by omega
   have P0:=aa (p0.below hb);have S0:=aa (s0.below hb);have P1:=aa (p1.below hb);have S1:=aa (s1.below hb);have P3:=aa (p3.below hb);have S3:=aa (s3.below hb);clear hcx hcy hdj hv0 hv1 hv2 hv3 hu0 hu1 hu2 hu3 hrv hru hxx p0 p1 p3 s0 s1 s3;go_wp2_with fail
   go_region_held3 (fun w'=>w'.cell? ⟨bx,ox+j*4,none⟩=some (.slice a0 ss.length c0)/\w'.cell? ⟨bx,ox+j*4+1,none⟩=some (.slice a1 cs.length c1)/\w'.cell? ⟨bx,ox+j*4+2,none⟩=some (.bool f)/\w'.cell? ⟨bx,ox+j*4+3,none⟩=some (.slice a3 bs.length c3)/\w'.cell? ⟨bY,oy+j*4,none⟩=some (.slice b0 ss.length d0)/\w'.cell? ⟨bY,oy+j*4+1,none⟩=some (.slice b1 cs.length d1)/\w'.cell? ⟨bY,oy+j*4+2,none⟩=some (.bool f)/\w'.cell? ⟨bY,oy+j*4+3,none⟩=some (.slice b3 bs.length d3))
    (first|(exact ⟨(hbC.cell (p:=⟨bx,ox+j*4,none⟩) zx).trans hx0,(hbC.cell (p:=⟨bx,ox+j*4+1,none⟩) zx).trans hx1,(hbC.cell (p:=⟨bx,ox+j*4+2,none⟩) zx).trans hx2,(hbC.cell (p:=⟨bx,ox+j*4+3,none⟩) zx).trans hx3,(hbC.cell (p:=⟨bY,oy+j*4,none⟩) zy).trans hy0,(hbC.cell (p:=⟨bY,oy+j*4+1,none⟩) zy).trans hy1,(hbC.cell (p:=⟨bY,oy+j*4+2,none⟩) zy).trans hy2,(hbC.cell (p:=⟨bY,oy+j*4+3,none⟩) zy).trans hy3⟩)|(exact ⟨hx0,hx1,hx2,hx3,hy0,hy1,hy2,hy3⟩)|go_keep)
    (first|(go_at_call 72;refine (rb _ E E' _ _ _ _ _ _ _ _ _ _ _ _ _ _ _ _ _ _ ss cs f bs (by exact P0.out.drew) (by exact P1.out.drew) (by exact P3.out.drew) (by exact S0.out.drew) (by exact S1.out.drew) (by exact S3.out.drew) hil).mono ?_;rintro e wC ⟨rfl,hbC0⟩;have hbC:Below wr.heap.size wr wC:=(Below.refl wr.heap.size wr).drew.trans hbC0))
   go_wp2
   go_roundw
   case rel=>exact ⟨j+1,by omega,by go_num,Below.andThen hb hbC⟩
   case measure=>simp [intOf];omega
 go_wp2
 go_ret
 exact ⟨rfl,hb⟩
theorem li (w:World) (E E' F F' G G':TypeId) (x:aq) (am ad bm bd:Option Addr) (nm cm nd cd pm em pd ed:Nat) (ms:List ai) (ds:List (Int×List Int)) (h0:(bI E F).Rd w [.slice am nm cm] ms) (h1:(aW G).Rd w [.slice ad nd cd] ds) (g0:(bI E' F').Rd w [.slice bm pm em] ms) (g1:(aW G').Rd w [.slice bd pd ed] ds) (hw:bh ms ds<=2097152):
 Calls Tryz.prog 13 #[.agg #[.int .i64 x.id,.int .i64 x.n,.int .i64 x.s,.slice am nm cm,.int .i64 x.lost,.int .i64 x.xW,.int .i64 x.seq,.int .i64 x.tail,.int .i64 x.gen,.slice ad nd cd,.int .i64 x.xY,.bool x.down,.bool x.xX],.agg #[.int .i64 x.id,.int .i64 x.n,.int .i64 x.s,.slice bm pm em,.int .i64 x.lost,.int .i64 x.xW,.int .i64 x.seq,.int .i64 x.tail,.int .i64 x.gen,.slice bd pd ed,.int .i64 x.xY,.bool x.down,.bool x.xX]] w fun e w'=>e=.returned (.bool true)/\Below w.heap.size w w':=by
 have hwm:aQ ms<=2097152:=by unfold bh at hw;omega
 have hwd:aX ds<=2097152:=by unfold bh at hw;omega
 have hA:=(af w (.cells #[.int .i64 x.id,.int .i64 x.n,.int .i64 x.s,.slice am nm cm,.int .i64 x.lost,.int .i64 x.xW,.int .i64 x.seq,.int .i64 x.tail,.int .i64 x.gen,.slice ad nd cd,.int .i64 x.xY,.bool x.down,.bool x.xX] 31)).alloc (by simp) (.cells #[.int .i64 x.id,.int .i64 x.n,.int .i64 x.s,.slice bm pm em,.int .i64 x.lost,.int .i64 x.xW,.int .i64 x.seq,.int .i64 x.tail,.int .i64 x.gen,.slice bd pd ed,.int .i64 x.xY,.bool x.down,.bool x.xX] 31);have X0:=(Box.new w 31 #[.int .i64 x.id,.int .i64 x.n,.int .i64 x.s,.slice am nm cm,.int .i64 x.lost,.int .i64 x.xW,.int .i64 x.seq,.int .i64 x.tail,.int .i64 x.gen,.slice ad nd cd,.int .i64 x.xY,.bool x.down,.bool x.xX]).alloc (.cells #[.int .i64 x.id,.int .i64 x.n,.int .i64 x.s,.slice bm pm em,.int .i64 x.lost,.int .i64 x.xW,.int .i64 x.seq,.int .i64 x.tail,.int .i64 x.gen,.slice bd pd ed,.int .i64 x.xY,.bool x.down,.bool x.xX] 31);have Y0:=Box.new (w.alloc (.cells #[.int .i64 x.id,.int .i64 x.n,.int .i64 x.s,.slice am nm cm,.int .i64 x.lost,.int .i64 x.xW,.int .i64 x.seq,.int .i64 x.tail,.int .i64 x.gen,.slice ad nd cd,.int .i64 x.xY,.bool x.down,.bool x.xX] 31)) 31 #[.int .i64 x.id,.int .i64 x.n,.int .i64 x.s,.slice bm pm em,.int .i64 x.lost,.int .i64 x.xW,.int .i64 x.seq,.int .i64 x.tail,.int .i64 x.gen,.slice bd pd ed,.int .i64 x.xY,.bool x.down,.bool x.xX];rw [World.size_alloc] at Y0;have p0:=h0.below hA;have p1:=h1.below hA;have q0:=g0.below hA;have q1:=g1.below hA;have z0:=X0.lt;have z1:=Y0.lt;go_enter Tryz.func13,Tryz.ntmps13
 obtain ⟨k0,k1,k2,k3,k4,k5,k6,k7,k8,k9,k10,k11,k12⟩:=X0.cells13;obtain ⟨l0,l1,l2,l3,l4,l5,l6,l7,l8,l9,l10,l11,l12⟩:=Y0.cells13;have X1:=aa X0;have Y1:=aa Y0;have B1:=aa hA;clear X0 Y0 hA;go_wp2_with fail
 generalize (w.alloc (.cells #[.int .i64 x.id,.int .i64 x.n,.int .i64 x.s,.slice am nm cm,.int .i64 x.lost,.int .i64 x.xW,.int .i64 x.seq,.int .i64 x.tail,.int .i64 x.gen,.slice ad nd cd,.int .i64 x.xY,.bool x.down,.bool x.xX] 31)).alloc (.cells #[.int .i64 x.id,.int .i64 x.n,.int .i64 x.s,.slice bm pm em,.int .i64 x.lost,.int .i64 x.xW,.int .i64 x.seq,.int .i64 x.tail,.int .i64 x.gen,.slice bd pd ed,.int .i64 x.xY,.bool x.down,.bool x.xX] 31)=W at p0 p1 q0 q1 z0 z1 X1 Y1 B1 k0 k1 k2 k3 k4 k5 k6 k7 k8 k9 k10 k11 k12 l0 l1 l2 l3 l4 l5 l6 l7 l8 l9 l10 l11 l12 ⊢;refine (pM _ E E' F F' _ _ _ _ _ _ ms p0 q0 hwm).mono ?_
 rintro e w2 ⟨rfl,b2⟩;have X2:=X1.out.below b2 z0;have Y2:=Y1.out.below b2 z1;have B2:=aa (Below.andThen B1.out b2);have r1:=p1.below b2;have s1:=q1.below b2;clear k0 k1 k2 k3 k4 k5 k6 k7 k8 k9 k10 k11 k12 l0 l1 l2 l3 l4 l5 l6 l7 l8 l9 l10 l11 l12 X1 Y1 B1 p0 p1 q0 q1 b2;obtain ⟨k0,k1,k2,k3,k4,k5,k6,k7,k8,k9,k10,k11,k12⟩:=X2.cells13;obtain ⟨l0,l1,l2,l3,l4,l5,l6,l7,l8,l9,l10,l11,l12⟩:=Y2.cells13;have X3:=aa X2;have Y3:=aa Y2;clear X2 Y2;go_wp2_with fail
 refine (oT _ G G' _ _ _ _ _ _ ds r1 s1 hwd).mono ?_
 rintro e w3 ⟨rfl,s3⟩;have X4:=X3.out.same s3;have Y4:=Y3.out.same s3;have B4:=aa (Below.andSame B2.out s3);clear k0 k1 k2 k3 k4 k5 k6 k7 k8 k9 k10 k11 k12 l0 l1 l2 l3 l4 l5 l6 l7 l8 l9 l10 l11 l12 X3 Y3 B2 r1 s1 s3;obtain ⟨k0,k1,k2,k3,k4,k5,k6,k7,k8,k9,k10,k11,k12⟩:=X4.cells13;obtain ⟨l0,l1,l2,l3,l4,l5,l6,l7,l8,l9,l10,l11,l12⟩:=Y4.cells13;clear X4 Y4;go_wp2
 go_ret
 exact ⟨rfl,B4.out⟩
end Go.Proofs.YtgjomldcnjjpaaaGreat
