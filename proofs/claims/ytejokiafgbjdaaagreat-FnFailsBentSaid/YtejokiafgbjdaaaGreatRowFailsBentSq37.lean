/-
 The program's CanLose walked. Condition: the array weighs at most 2097152.
-/
import Derived.Test.YtejokiafgbjdaaaGreatRowFailsBentSq24
import Derived.Test.YtejokiafgbjdaaaGreatRowFailsBentSq30

set_option maxRecDepth 100000
set_option maxHeartbeats 8000000
set_option linter.unusedSimpArgs false

namespace Go.Proofs.YtejokiafgbjdaaaGreat
open Go.RowKit

theorem pX (w:World) (y:Int):Calls Tryz.prog 199 #[.int .i64 y] w fun e w'=>e=.returned (.bool (decide (bp 0<=y)))/\aH w w':=by
 go_enter Tryz.func199,Tryz.ntmps199
 go_wp2_with fail
 refine (fM _ _).mono ?_
 rintro e wq ⟨rfl,hq⟩;subst hq;go_wp2
 go_ret
 exact ⟨rfl,aH.refl _⟩
theorem oS (w:World) (a:Option Addr) (len cap:Nat) (zs:List Int) (hz:zs.length=len) (hr:aF .i64 w a zs) (hlen:len<=2097152):
 Calls Tryz.prog 234 #[.slice a len cap,.func (Fn.func 199) #[] #[]] w fun e w'=>((e=.returned (.int .i64 (-1))/\fZ zs=false)∨∃j:Nat,j<len/\e=.returned (.int .i64 j)/\fZ zs=true)/\aH w w':=by
 go_enter Tryz.func234,Tryz.ntmps234
 go_wp2
 go_loopw [8] (fun i wr=>∃j:Nat,j<=len/\i=.int .i64 j/\fZ (zs.take j)=false/\aH w wr) (fun i _=>len-(intOf i).toNat)
 case atStart=>exact ⟨0,Nat.zero_le _,rfl,rfl,aH.refl _⟩
 obtain ⟨j,hj,rfl,ht,hs⟩:=hrel;by_cases hlt:j<len
 . rcases hr.cases with h0|⟨b,off,rfl,hbl,hcz⟩
   . omega
   have hc1:=(hs.cell _).trans (hcz j (by omega));by_cases hge:bp 0<=zs.getD j 0
   . have HX:=aa (oR (by omega) hge)
     generalize zs.getD j 0=x at hc1 hge;have hd:decide (bp 0<=x)=true:=decide_eq_true hge;clear hcz ht hge;go_wp2_with fail
     refine (pX _ _).mono ?_
     rintro e w1 ⟨rfl,hs1⟩;go_wp2
     go_ret
     exact ⟨.inr ⟨j,hlt,rfl,HX.out⟩,hs.trans hs1⟩
   have HT:=aa (mK (by omega) hge ht);generalize zs.getD j 0=x at hc1 hge;have hd:decide (bp 0<=x)=false:=decide_eq_false hge;clear hcz ht hge;go_wp2_with fail
   refine (pX _ _).mono ?_
   rintro e w1 ⟨rfl,hs1⟩;go_wp2
   go_roundw
   case rel=>exact ⟨j+1,by omega,by go_num,HT.out,hs.trans hs1⟩
   case measure=>simp [intOf];omega
 have e:j=zs.length:=by omega
 have HT:Hid (fZ zs=false):=by unfold Hid;rw [e,List.take_length] at ht;exact ht
 clear ht e;go_wp2
 go_ret
 exact ⟨.inl ⟨rfl,HT.out⟩,hs⟩
theorem qW (w:World) (a:Option Addr) (len cap:Nat) (zs:List Int) (hz:zs.length=len) (hr:aF .i64 w a zs) (hlen:len<=2097152):
 Calls Tryz.prog 198 #[.slice a len cap,.func (Fn.func 199) #[] #[]] w fun e w'=>e=.returned (.bool (fZ zs))/\aH w w':=by
 go_enter Tryz.func198,Tryz.ntmps198
 go_wp2_with fail
 refine (oS _ _ _ _ zs hz hr hlen).mono ?_
 rintro e w1 ⟨⟨rfl,h⟩|⟨j,hj,rfl,h⟩,hs⟩
 . have H:=aa h
   clear h;go_wp2
   go_ret
   exact ⟨ag (by rw [H.out]),hs⟩
 have H:=aa h;have j0:(0:Int)<=(j:Int):=by omega
 clear h;go_wp2
 go_ret
 exact ⟨ag (by rw [H.out]),hs⟩
theorem qX (w:World) (v0 v1 v2:Value) (a:Option Addr) (len cap:Nat) (zs:List Int) (hz:zs.length=len) (hr:aF .i64 w a zs) (hlen:len<=2097152):
 Calls Tryz.prog 146 #[.agg #[v0,v1,v2,.slice a len cap]] w fun e w'=>e=.returned (.bool (fZ zs))/\Below w.heap.size w w':=by
 have hA:=ah w (.cells #[v0,v1,v2,.slice a len cap] 126);have X:=Box.new w 126 #[v0,v1,v2,.slice a len cap];obtain ⟨k0,k1,k2,k3⟩:=X.cells4;have r0:=hr.below hA;go_enter Tryz.func146,Tryz.ntmps146
 go_wp2_with fail
 refine (qW _ _ _ _ zs hz r0 hlen).mono ?_
 rintro e w1 ⟨rfl,hs⟩;go_wp2
 go_ret
 exact ⟨rfl,Below.andSame hA hs⟩
theorem gW (w:World) (E F:TypeId) (x:al) (am ad:Option Addr) (nm cm nd cd:Nat) (ms:List ai) (m:Int) (h0:(bk E F).Rd w [.slice am nm cm] ms) (hwm:aK ms<=2097152) (hn3:3<=nm):
 Calls Tryz.prog 86 #[.agg #[.int .i64 x.id,.int .i64 x.n,.int .i64 x.s,.slice am nm cm,.int .i64 x.lost,.int .i64 x.uG,.int .i64 x.seq,.int .i64 x.tail,.int .i64 x.gen,.slice ad nd cd,.int .i64 x.uI,.bool x.down,.bool x.uH],.int .i64 m] w fun e w'=>e=.returned (.bool (gc ms m ms.length))/\Below w.heap.size w w':=by
 obtain ⟨hl,hcp,hcm⟩:=ae h0;have hnm:nm<=2097152:=by unfold aK at hwm;omega
 have hA:=ah w (.cells #[.int .i64 x.id,.int .i64 x.n,.int .i64 x.s,.slice am nm cm,.int .i64 x.lost,.int .i64 x.uG,.int .i64 x.seq,.int .i64 x.tail,.int .i64 x.gen,.slice ad nd cd,.int .i64 x.uI,.bool x.down,.bool x.uH] 29);have X:=Box.new w 29 #[.int .i64 x.id,.int .i64 x.n,.int .i64 x.s,.slice am nm cm,.int .i64 x.lost,.int .i64 x.uG,.int .i64 x.seq,.int .i64 x.tail,.int .i64 x.gen,.slice ad nd cd,.int .i64 x.uI,.bool x.down,.bool x.uH];have k3:=X.cells13.2.2.2.1;have r0:=h0.below hA;rcases cF rfl r0 with h0'|⟨b,off,rfl,hbl,hcs⟩
 . omega
 go_enter Tryz.func86,Tryz.ntmps86
 go_wp2
 generalize w.alloc (.cells #[.int .i64 x.id,.int .i64 x.n,.int .i64 x.s,.slice (some ⟨b,off,none⟩) nm cm,.int .i64 x.lost,.int .i64 x.uG,.int .i64 x.seq,.int .i64 x.tail,.int .i64 x.gen,.slice ad nd cd,.int .i64 x.uI,.bool x.down,.bool x.uH] 29)=W at hA X k3 hbl hcs ⊢;go_loopw [11] (fun i wr=>∃j:Nat,j<=nm/\i=.int .i64 j/\gc ms m j=false/\Below W.heap.size W wr) (fun i _=>nm-(intOf i).toNat)
 case atStart=>exact ⟨0,Nat.zero_le _,rfl,rfl,Below.refl _ _⟩
 obtain ⟨j,hj,rfl,ho,hb⟩:=hrel;by_cases hjn:j<nm
 . obtain ⟨d,hdj⟩:∃d,ms[j]?=some d:=⟨_,List.getElem?_eq_getElem (by omega)⟩
   obtain ⟨v0,v1,v2,v3,y0,y1,y2,y3,hrv⟩:=hcs j d hdj;have hwd:=cD hdj;obtain ⟨a0,c0,a1,c1,a3,c3',ss,cs,f,bs,rfl,rfl,rfl,rfl,rfl,p0,p1,p3⟩:=dP hrv;have p3b:=p3.below hb;obtain ⟨R3,hl3,_,_⟩:=aO p3b;have hbs:bs.length<=2097152:=by unfold aJ at hwd;dsimp only at hwd;omega
   have i1:(0:Int)<=(j:Int):=by omega
   have i3:(j:Int)<(nm:Int):=by omega
   have z0:=(hb.cell (p:=⟨b,off+j*4,none⟩) hbl).trans y0;have z1:=(hb.cell (p:=⟨b,off+j*4+1,none⟩) hbl).trans y1;have z2:=(hb.cell (p:=⟨b,off+j*4+2,none⟩) hbl).trans y2;have z3:=(hb.cell (p:=⟨b,off+j*4+3,none⟩) hbl).trans y3;have n1:=(ah wr (.cells #[.slice a0 ss.length c0,.slice a1 cs.length c1,.bool f,.slice a3 bs.length c3'] 78)).alloc (by simp) (.cells #[.slice a0 ss.length c0,.slice a1 cs.length c1,.bool f,.slice a3 bs.length c3'] 128);have HO:=aa ho;clear p0 p1 p3 p3b hrv y0 y1 y2 y3 ho hwd;by_cases hjm:(j:Int)=m
   . have g1:((j:Int) !=m)=false:=by simp [hjm]
     have HO2:=aa (tY hjm HO.out);clear hjm;go_wp2_with fail
     go_roundw
     case rel=>exact ⟨j+1,by omega,by go_num,HO2.out,hb.trans (n1.mono hb.size)⟩
     case measure=>simp [intOf];omega
   have g1:((j:Int) !=m)=true:=by simp [hjm]
   go_wp2_with fail
   refine (qX _ _ _ _ _ _ _ bs rfl (R3.below n1) hbs).mono ?_
   rintro e w1 ⟨rfl,b1⟩;have B1:=hb.trans ((Below.andThen n1 b1).mono hb.size);cases hsp:fZ bs
   . have HO2:=aa (km hdj (fun _=>hsp) HO.out)
     clear hsp hjm;go_wp2
     go_roundw
     case rel=>exact ⟨j+1,by omega,by go_num,HO2.out,B1⟩
     case measure=>simp [intOf];omega
   have HF:=aa (oQ hdj hjm hsp);clear hsp hjm;go_wp2
   go_ret
   exact ⟨ag (by rw [HF.out]),Below.andThen hA B1⟩
 have ej:j=ms.length:=by omega
 have HF:Hid (gc ms m ms.length=false):=by unfold Hid;rw [←ej,ho]
 clear ej ho;go_wp2
 go_ret
 exact ⟨ag (by rw [HF.out]),Below.andThen hA hb⟩
theorem le (w:World) (E F G:TypeId) (x:al) (am ad:Option Addr) (nm cm nd cd:Nat) (ms:List ai) (ds:List (Int×List Int)) (m:Int) (h0:(bk E F).Rd w [.slice am nm cm] ms) (h1:(aU G).Rd w [.slice ad nd cd] ds) (hw:aM ms ds<=2097152):
 Calls Tryz.prog 28 #[.agg #[.int .i64 x.id,.int .i64 x.n,.int .i64 x.s,.slice am nm cm,.int .i64 x.lost,.int .i64 x.uG,.int .i64 x.seq,.int .i64 x.tail,.int .i64 x.gen,.slice ad nd cd,.int .i64 x.uI,.bool x.down,.bool x.uH],.int .i64 m] w fun e w'=>e=.returned (.bool (dE x ms ds m))/\Below w.heap.size w w':=by
 have hwm:aK ms<=2097152:=by unfold aM at hw;omega
 obtain ⟨hl,hcp,hcm⟩:=ae h0;have hA:=ah w (.cells #[.int .i64 x.id,.int .i64 x.n,.int .i64 x.s,.slice am nm cm,.int .i64 x.lost,.int .i64 x.uG,.int .i64 x.seq,.int .i64 x.tail,.int .i64 x.gen,.slice ad nd cd,.int .i64 x.uI,.bool x.down,.bool x.uH] 29);have X:=Box.new w 29 #[.int .i64 x.id,.int .i64 x.n,.int .i64 x.s,.slice am nm cm,.int .i64 x.lost,.int .i64 x.uG,.int .i64 x.seq,.int .i64 x.tail,.int .i64 x.gen,.slice ad nd cd,.int .i64 x.uI,.bool x.down,.bool x.uH];have zA:=X.lt;obtain ⟨k0,k1,k2,k3,k4,k5,k6,k7,k8,k9,k10,k11,k12⟩:=X.cells13;have r0:=h0.below hA;have r1:=h1.below hA;go_enter Tryz.func28,Tryz.ntmps28
 go_wp2_with fail
 generalize w.alloc (.cells #[.int .i64 x.id,.int .i64 x.n,.int .i64 x.s,.slice am nm cm,.int .i64 x.lost,.int .i64 x.uG,.int .i64 x.seq,.int .i64 x.tail,.int .i64 x.gen,.slice ad nd cd,.int .i64 x.uI,.bool x.down,.bool x.uH] 29)=W at hA X zA r0 r1 k0 k1 k2 k3 k4 k5 k6 k7 k8 k9 k10 k11 k12 ⊢;refine (eR _ E F G x _ _ _ _ _ _ ms ds r0 r1 hw).mono ?_
 rintro e w1 ⟨rfl,b1⟩;have X1:=X.below b1 zA;have B1:=Below.andThen hA b1;have q1:=r0.below b1;clear k0 k1 k2 k3 k4 k5 k6 k7 k8 k9 k10 k11 k12 X b1 hA zA r0 r1;obtain ⟨k0,k1,k2,k3,k4,k5,k6,k7,k8,k9,k10,k11,k12⟩:=X1.cells13;cases ha:aX x ms ds
 . skip
   have HF:Hid (dE x ms ds m=false):=iM (by unfold jk;rw [ha];rfl);have FB:=aa B1;go_wp2
   go_ret
   exact ⟨ag (by rw [HF.out]),FB.out⟩
 have hmn:(ms.length:Int)=x.n/\3<=x.n/\x.n<=5:=by unfold aX bS at ha;simp only [Bool.and_eq_true,az,decide_eq_true_eq] at ha;exact ⟨ha.2.2.1.2,ha.1.1,ha.1.2.1⟩
 have HA:=aa ha;clear ha;go_wp2_with fail
 refine (iF _ x _ _ _ _ _ _ m).mono ?_
 rintro e w2 ⟨rfl,b2⟩;have X2:=X1.below b2 X1.lt;have B2:=Below.andThen B1 b2;have q2:=q1.below b2;clear k0 k1 k2 k3 k4 k5 k6 k7 k8 k9 k10 k11 k12 X1 B1 b2 q1;obtain ⟨k0,k1,k2,k3,k4,k5,k6,k7,k8,k9,k10,k11,k12⟩:=X2.cells13;have hnl:((nm:Int)-1)=((ms.length:Int)-1):=by omega
 cases hin:inB m 0 ((nm:Int)-1)
 . skip
   have HF:Hid (dE x ms ds m=false):=iM (by unfold jk;rw [hnl] at hin;rw [hin];simp);have FB:=aa B2;go_wp2
   go_ret
   exact ⟨ag (by rw [HF.out]),FB.out⟩
 have HIN:Hid (inB m 0 ((ms.length:Int)-1)=true):=by unfold Hid;rw [←hnl];exact hin
 clear hin;cases hbr:x.uH
 case true=>
  rw [hbr] at k12;have HBR:=aa hbr;clear hbr;have HF:Hid (dE x ms ds m=false):=iM (by unfold jk;rw [HBR.out];simp);have FB:=aa B2;go_wp2
  go_ret
  exact ⟨ag (by rw [HF.out]),FB.out⟩
 have HBR:=aa hbr;rw [hbr] at k12;clear hbr;by_cases l1:x.lost=-1
 . have e1:(x.lost==-1)=true:=by simp [l1]
   have HL1:=aa l1;clear l1;have HCO:Hid (dE x ms ds m=!gc ms m ms.length):=oP (by unfold jk;rw [HA.out,HIN.out,HBR.out,HL1.out];rfl);go_wp2_with fail
   refine (gW _ E F {x with uH:=false} _ _ _ _ _ _ ms m q2 hwm (by omega)).mono ?_
   rintro e w3 ⟨rfl,b3⟩;have FB:=aa (Below.andThen B2 b3);generalize gc ms m ms.length=o at HCO ⊢;go_wp2
   go_ret
   exact ⟨ag (by rw [HCO.out]),FB.out⟩
 have e1:(x.lost==-1)=false:=by simp [l1]
 by_cases l2:x.lost=m
 . have e2:(x.lost==m)=true:=by simp [l2]
   have HL1:=aa l2;clear l1 l2;have HCO:Hid (dE x ms ds m=!gc ms m ms.length):=oP (by unfold jk;rw [HA.out,HIN.out,HBR.out,HL1.out];simp);go_wp2_with fail
   refine (gW _ E F {x with uH:=false} _ _ _ _ _ _ ms m q2 hwm (by omega)).mono ?_
   rintro e w3 ⟨rfl,b3⟩;have FB:=aa (Below.andThen B2 b3);generalize gc ms m ms.length=o at HCO ⊢;go_wp2
   go_ret
   exact ⟨ag (by rw [HCO.out]),FB.out⟩
 have e2:(x.lost==m)=false:=by simp [l2]
 have HL1:=aa (show (decide (x.lost=-1)||decide (x.lost=m))=false by simp [l1,l2]);clear l1 l2;have HF:Hid (dE x ms ds m=false):=iM (by unfold jk;rw [HL1.out];simp);have FB:=aa B2;go_wp2
 go_ret
 exact ⟨ag (by rw [HF.out]),FB.out⟩
end Go.Proofs.YtejokiafgbjdaaaGreat
