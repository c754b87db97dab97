/-
 Whether an array that is right is even: impl.Even walked. Condition: it is of at most 2097152 numbers and disks, and right.
-/
import Derived.Test.YtgjomldcnjjpaaaGreatRowArrsSq31
import Derived.Test.YtgjomldcnjjpaaaGreatRowArrsSq34
import Derived.Test.YtgjomldcnjjpaaaGreatRowArrsSq30
import Derived.Test.YtgjomldcnjjpaaaGreatRowArrsSq6
import Derived.Test.YtgjomldcnjjpaaaGreatRowArrsSq3

set_option maxRecDepth 100000
set_option maxHeartbeats 8000000
set_option linter.unusedSimpArgs false

namespace Go.Proofs.YtgjomldcnjjpaaaGreat
open Go.RowKit

theorem jF (w:World) (E F G:TypeId) (x:aq) (am ad:Option Addr) (nm cm nd cd:Nat) (ms:List ai) (ds:List (Int×List Int)) (s:Int) (h0:(bI E F).Rd w [.slice am nm cm] ms) (h1:(aW G).Rd w [.slice ad nd cd] ds) (hw:bh ms ds<=2097152) (ha:bf x ms ds=true):
 Calls Tryz.prog 53 #[.agg #[.int .i64 x.id,.int .i64 x.n,.int .i64 x.s,.slice am nm cm,.int .i64 x.lost,.int .i64 x.xW,.int .i64 x.seq,.int .i64 x.tail,.int .i64 x.gen,.slice ad nd cd,.int .i64 x.xY,.bool x.down,.bool x.xX],.int .i64 s] w fun e w'=>e=.returned (.tuple #[.int .i64 (je x ms ds s),.bool (cT x ms ds s)])/\Below w.heap.size w w':=by
 have hwm:aQ ms<=2097152:=by unfold bh at hw;omega
 obtain ⟨hl,hcp,hcm⟩:=ag h0;have hA:=af w (.cells #[.int .i64 x.id,.int .i64 x.n,.int .i64 x.s,.slice am nm cm,.int .i64 x.lost,.int .i64 x.xW,.int .i64 x.seq,.int .i64 x.tail,.int .i64 x.gen,.slice ad nd cd,.int .i64 x.xY,.bool x.down,.bool x.xX] 31);have X:=Box.new w 31 #[.int .i64 x.id,.int .i64 x.n,.int .i64 x.s,.slice am nm cm,.int .i64 x.lost,.int .i64 x.xW,.int .i64 x.seq,.int .i64 x.tail,.int .i64 x.gen,.slice ad nd cd,.int .i64 x.xY,.bool x.down,.bool x.xX];have zA:=X.lt;obtain ⟨k0,k1,k2,k3,k4,k5,k6,k7,k8,k9,k10,k11,k12⟩:=X.cells13;have r0:=h0.below hA;have r1:=h1.below hA;obtain ⟨i0,hi,hz0,hz1,hz2⟩:=info_parts Tryz.info3;have hg:bL x.n x.s=true:=by unfold bf at ha;simp only [Bool.and_eq_true] at ha;exact ha.1
 have hmn:(ms.length:Int)=x.n:=by unfold bf cI at ha;simp only [Bool.and_eq_true,decide_eq_true_eq] at ha;exact ha.2.2.1.2
 have HMN:=aa hmn;have HA:=aa ha;have hst:=iL (x:=x) (y:=s) hg;obtain ⟨g1,g2,g3,g4⟩:=aB.1 hg;clear hmn ha;go_enter Tryz.func53,Tryz.ntmps53
 go_wp2_with fail
 generalize w.alloc (.cells #[.int .i64 x.id,.int .i64 x.n,.int .i64 x.s,.slice am nm cm,.int .i64 x.lost,.int .i64 x.xW,.int .i64 x.seq,.int .i64 x.tail,.int .i64 x.gen,.slice ad nd cd,.int .i64 x.xY,.bool x.down,.bool x.xX] 31)=W at hA X zA r0 r1 k0 k1 k2 k3 k4 k5 k6 k7 k8 k9 k10 k11 k12 ⊢;refine (bQ _ x.n x.s s).mono ?_
 rintro e w2 ⟨rfl,b2⟩;have X2:=X.below b2 zA;have B2:=Below.andThen hA b2;have q2:=r0.below b2;have p2:=r1.below b2;clear k0 k1 k2 k3 k4 k5 k6 k7 k8 k9 k10 k11 k12 X b2 hA zA r0 r1;cases hin:bJ x.n x.s s
 . skip
   have HF:Hid (cT x ms ds s=false/\je x ms ds s=0):=by
    have h:=(by unfold cT;rw [←hst,hin];simp:cT x ms ds s=false);exact ⟨h,nM h⟩
   have FB:=aa B2;go_wp2
   refine bodyPost_ret (v:=.tuple #[.int .i64 0,.bool false]) (by simp [results,Tryz.results53,go_sem]) rfl ?_
   exact ⟨by rw [HF.out.1,HF.out.2],FB.out⟩
 have HIN:Hid (inB s 0 (x.s-1)=true):=by unfold Hid;rw [←hst,hin]
 clear hst hin;obtain ⟨n,hn⟩:∃n:Nat,x.n=(n:Int):=⟨x.n.toNat,by omega⟩;have HN:=aa hn;have HNT:Hid (x.n.toNat=n):=by unfold Hid;omega
 have hn5:n<=5:=by omega
 have hn3:3<=n:=by omega
 have hnm:n=nm:=by have:=HMN.out;omega
 have HNM:=aa hnm;clear hnm;obtain ⟨k0,k1,k2,k3,k4,k5,k6,k7,k8,k9,k10,k11,k12⟩:=X2.cells13;rw [hn] at k1;clear hn k0 k2 k3 k4 k5 k6 k7 k8 k9 k10 k11 k12;have hb3:i0.bytes*n<=281474976710656:=by rw [hz2];omega
 have hm3:n<=maxLen:=by unfold maxLen;omega
 go_wp2_with (at_make;refine wpList_make_full _ rfl _ _ 42 rfl w2.heap.size 3 i0 (.int .i64 0) 1 Tryz.underlying42 hi hz0 hz1 _ _ _ _ n rfl rfl rfl rfl hb3 hm3 (Nat.le_refl _) ?_;intro w3 hown hgrow)
 have hO:bk .i64 3 w3 w2.heap.size (.slice (some ⟨w2.heap.size,0,none⟩) n n) (List.replicate n 0):=by
  rw [ie] at hown;unfold bk;rw [List.length_replicate];exact hown
 have hO1:=hO.own;have hB1:Below w2.heap.size w2 w3:=(Below.refl _ _).grown hgrow (Nat.le_refl _) (by simp);have zw:w2.heap.size<w3.heap.size:=hO1.2 _ rfl;generalize w3.heap.size=hi1 at hO1 zw;clear hown hgrow hO k1;go_loopw [21] (fun i wr=>∃j:Nat,j<=n/\i=.int .i64 j/\bV x ms s j=[]/\Own .i64 3 wr w2.heap.size hi1 (.slice (some ⟨w2.heap.size,0,none⟩) n n) (cJ x ms s j++List.replicate (n-j) 0)/\Below w2.heap.size w2 wr) (fun i _=>n-(intOf i).toNat)
 case atStart=>exact ⟨0,Nat.zero_le _,rfl,rfl,by simpa [cJ] using hO1,hB1⟩
 clear hO1 hB1;obtain ⟨j,hj,rfl,hm1,ho,hb⟩:=hrel;have Xr:=X2.below hb X2.lt;have zs:=hb.size;by_cases hlt:j<n
 . obtain ⟨k0,k1,k2,k3,k4,k5,k6,k7,k8,k9,k10,k11,k12⟩:=Xr.cells13
   have hlt':(j:Int)<(n:Int):=by omega
   go_wp2_with fail
   refine (jg _ E F G x _ _ _ _ _ _ ms ds (j:Int) s (q2.below hb) (p2.below hb) hw).mono ?_
   rintro e w4 ⟨rfl,b4⟩;have X4:=Xr.below b4 Xr.lt;have o4:=ho.below b4;have B4:=hb.trans (b4.mono zs);have FB4:=Below.andThen B2 B4;clear k0 k1 k2 k3 k4 k5 k6 k7 k8 k9 k10 k11 k12 Xr b4 ho hb;cases hlv:dC x ms (j:Int) s
   . skip
     have HF:Hid (cT x ms ds s=false/\je x ms ds s=0):=by
      have h:=nN (ds:=ds) (by have:=HNT.out;omega) (pU hlv);exact ⟨h,nM h⟩
     have FB:=aa FB4;go_wp2
     refine bodyPost_ret (v:=.tuple #[.int .i64 0,.bool false]) (by simp [results,Tryz.results53,go_sem]) rfl ?_
     exact ⟨by rw [HF.out.1,HF.out.2],FB.out⟩
   obtain ⟨k0,k1,k2,k3,k4,k5,k6,k7,k8,k9,k10,k11,k12⟩:=X4.cells13;have z4:=B4.size;clear hlv FB4;go_wp2_with fail
   refine (jR _ E F x _ _ _ _ _ _ ms j (q2.below B4) hwm (by have:=HNM.out;omega)).mono ?_
   rintro e w5 ⟨v,rfl,hd,b5⟩;have o5:=o4.below b5;have B5:=B4.trans (b5.mono z4);clear k0 k1 k2 k3 k4 k5 k6 k7 k8 k9 k10 k11 k12 X4 b5 o4 B4;go_wp2_with fail
   refine (nU _ E x ms j v s hd hwm).mono ?_
   rintro e w6 ⟨rfl,b6⟩;have o6:=o5.below b6;have B6:=B5.trans (b6.mono B5.size);have FB6:=Below.andThen B2 B6;clear b6 o5 B5 hd;cases hh:dv x ms (j:Int) s
   . skip
     have HF:Hid (cT x ms ds s=false/\je x ms ds s=0):=by
      have h:=nN (ds:=ds) (by have:=HNT.out;omega) hh;exact ⟨h,nM h⟩
     have FB:=aa FB6;go_wp2
     refine bodyPost_ret (v:=.tuple #[.int .i64 0,.bool false]) (by simp [results,Tryz.results53,go_sem]) rfl ?_
     exact ⟨by rw [HF.out.1,HF.out.2],FB.out⟩
   have hfs:=fill6 x ms s n j hlt;obtain ⟨hcy,hfy,hst,hbt⟩:=o6.store j hlt (dl x ms (j:Int) s);rw [hfs] at hst;have HST:=aa hst;have HM:=aa (uJ hm1 hh);have HB:Hid (Below w2.heap.size w2 (w6.setCell ⟨w2.heap.size,j,none⟩ (.int .i64 (dl x ms (j:Int) s)))):=B6.setCell (Nat.le_refl _) _;have hj0:(0:Int)<=(j:Int):=Int.natCast_nonneg _;clear hst hbt hfs hm1 hh FB6 B6 o6;generalize (cJ x ms s j++List.replicate (n-j) 0).getD j 0=old at hcy;generalize dl x ms (j:Int) s=y at HST HB ⊢;go_wp2
   go_roundw
   case rel=>exact ⟨j+1,by omega,by go_num,HM.out,HST.out,HB.out⟩
   case measure=>simp [intOf];omega
 have ej:j=n:=by omega
 subst ej;obtain ⟨t1,t2⟩:=uK HA.out HIN.out (by rw [HNT.out];exact hm1);rw [HNT.out] at t2;have HT1:=aa t1;have HT2:=aa t2;have FB:=Below.andThen B2 hb;have hlen:=eQ x ms s j;have hr:aJ .i64 wr (some ⟨w2.heap.size,0,none⟩) (cJ x ms s j):=by
  have:=ho.reads;simpa using this
 clear t1 t2 hm1 ho;go_wp2_with fail
 refine (jD _ _ _ _ (cJ x ms s j) hlen hr (by omega)).mono ?_
 rintro e w7 ⟨rfl,sm⟩;have FB7:=aa (FB.trans (sm.below _));clear FB hb hr;generalize fJ (cJ x ms s j)=z at HT2 ⊢;go_wp2
 refine bodyPost_ret (v:=.tuple #[.int .i64 z,.bool true]) (by simp [results,Tryz.results53,go_sem]) rfl ?_
 exact ⟨by rw [HT1.out,HT2.out],FB7.out⟩
theorem qK (w:World) (E F G:TypeId) (x:aq) (am ad:Option Addr) (nm cm nd cd:Nat) (ms:List ai) (ds:List (Int×List Int))  (h0:(bI E F).Rd w [.slice am nm cm] ms) (h1:(aW G).Rd w [.slice ad nd cd] ds) (hw:bh ms ds<=2097152):
 Calls Tryz.prog 20 #[.agg #[.int .i64 x.id,.int .i64 x.n,.int .i64 x.s,.slice am nm cm,.int .i64 x.lost,.int .i64 x.xW,.int .i64 x.seq,.int .i64 x.tail,.int .i64 x.gen,.slice ad nd cd,.int .i64 x.xY,.bool x.down,.bool x.xX]] w fun e w'=>e=.returned (.int .i64 (jO x ms ds))/\Below w.heap.size w w':=by
 have hwm:aQ ms<=2097152:=by unfold bh at hw;omega
 obtain ⟨hl,hcp,hcm⟩:=ag h0;have hA:=af w (.cells #[.int .i64 x.id,.int .i64 x.n,.int .i64 x.s,.slice am nm cm,.int .i64 x.lost,.int .i64 x.xW,.int .i64 x.seq,.int .i64 x.tail,.int .i64 x.gen,.slice ad nd cd,.int .i64 x.xY,.bool x.down,.bool x.xX] 31);have X:=Box.new w 31 #[.int .i64 x.id,.int .i64 x.n,.int .i64 x.s,.slice am nm cm,.int .i64 x.lost,.int .i64 x.xW,.int .i64 x.seq,.int .i64 x.tail,.int .i64 x.gen,.slice ad nd cd,.int .i64 x.xY,.bool x.down,.bool x.xX];have zA:=X.lt;obtain ⟨k0,k1,k2,k3,k4,k5,k6,k7,k8,k9,k10,k11,k12⟩:=X.cells13;have r0:=h0.below hA;have r1:=h1.below hA;go_enter Tryz.func20,Tryz.ntmps20
 go_wp2_with fail
 generalize w.alloc (.cells #[.int .i64 x.id,.int .i64 x.n,.int .i64 x.s,.slice am nm cm,.int .i64 x.lost,.int .i64 x.xW,.int .i64 x.seq,.int .i64 x.tail,.int .i64 x.gen,.slice ad nd cd,.int .i64 x.xY,.bool x.down,.bool x.xX] 31)=W at hA X zA r0 r1 k0 k1 k2 k3 k4 k5 k6 k7 k8 k9 k10 k11 k12 ⊢;refine (dx _ E F G x _ _ _ _ _ _ ms ds r0 r1 hw).mono ?_
 rintro e w1 ⟨rfl,b1⟩;have X1:=X.below b1 zA;have B1:=Below.andThen hA b1;have q1:=r0.below b1;have p1:=r1.below b1;clear k0 k1 k2 k3 k4 k5 k6 k7 k8 k9 k10 k11 k12 X b1 hA zA r0 r1;obtain ⟨k0,k1,k2,k3,k4,k5,k6,k7,k8,k9,k10,k11,k12⟩:=X1.cells13;cases ha:bf x ms ds
 . have HB0:=aa (xC (x:=x) (ms:=ms) (ds:=ds) ha)
   have FB:=aa B1;go_wp2
   go_ret
   exact ⟨aF (by rw [HB0.out]),FB.out⟩
 have hg:bL x.n x.s=true:=by unfold bf at ha;simp only [Bool.and_eq_true] at ha;exact ha.1
 obtain ⟨g1,g2,g3,g4⟩:=aB.1 hg;have HBO:=aa (xD (x:=x) (ms:=ms) (ds:=ds) ha);have HA:=aa ha;have HG:=aa hg;clear ha;go_wp2_with fail
 refine (jE _ x.n x.s).mono ?_
 rintro e w2 ⟨rfl,b2⟩;rw [qJ HG.out];have X2:=X1.below b2 X1.lt;have B2:=Below.andThen B1 b2;have q2:=q1.below b2;have p2:=p1.below b2;clear k0 k1 k2 k3 k4 k5 k6 k7 k8 k9 k10 k11 k12 X1 b2 B1 q1 p1 hg;obtain ⟨n,hn⟩:∃n:Nat,x.s=(n:Int):=⟨x.s.toNat,by omega⟩;have HNT:Hid (x.s.toNat=n):=by unfold Hid;omega
 have hn8:n<=8:=by omega
 rw [hn];clear hn;go_wp2
 go_loopw [3,13] (fun v i wr=>∃j:Nat,j<=n/\i=.int .i64 j/\v=.int .i64 ((gR x ms ds j).length:Int)/\Below w2.heap.size w2 wr) (fun _ i _=>n-(intOf i).toNat)
 case atStart=>exact ⟨0,Nat.zero_le _,rfl,rfl,Below.refl _ _⟩
 obtain ⟨j,hj,rfl,rfl,hb⟩:=hrel;have Xr:=X2.below hb X2.lt;have zs:=hb.size;by_cases hlt:j<n
 . obtain ⟨k0,k1,k2,k3,k4,k5,k6,k7,k8,k9,k10,k11,k12⟩:=Xr.cells13
   have hlt':(j:Int)<(n:Int):=by omega
   go_wp2_with fail
   refine (jF _ E F G x _ _ _ _ _ _ ms ds (j:Int) (q2.below hb) (p2.below hb) hw HA.out).mono ?_
   rintro e w3 ⟨rfl,b3⟩;have HB3:=aa (hb.trans (b3.mono hb.size));clear k0 k1 k2 k3 k4 k5 k6 k7 k8 k9 k10 k11 k12 Xr b3 hb;have hle:=vO x ms ds j;cases ht:cT x ms ds (j:Int)
   . have hs:=vN ht
     generalize (gR x ms ds j).length=k at hs hle ⊢;have HS:=aa hs;clear hs ht;go_wp2
     go_roundw
     case rel=>exact ⟨j+1,by omega,by go_num,by rw [HS.out];go_num,HB3.out⟩
     case measure=>simp [intOf];omega
   have hs:=uN ht;generalize (gR x ms ds j).length=k at hs hle ⊢;have HS:=aa hs;clear hs ht;go_wp2
   go_roundw
   case rel=>exact ⟨j+1,by omega,by go_num,by rw [HS.out],HB3.out⟩
   case measure=>simp [intOf];omega
 have ej:j=n:=by omega
 subst ej;have HV:Hid (jO x ms ds=((gR x ms ds j).length:Int)):=by unfold Hid;rw [HBO.out,HNT.out]
 have FB:=aa (Below.andThen B2 hb);clear hlt hb;generalize ((gR x ms ds j).length:Int)=z at HV ⊢;go_wp2
 go_ret
 exact ⟨aF (by rw [HV.out]),FB.out⟩
theorem qL (w:World) (E F G:TypeId) (x:aq) (am ad:Option Addr) (nm cm nd cd:Nat) (ms:List ai) (ds:List (Int×List Int))  (h0:(bI E F).Rd w [.slice am nm cm] ms) (h1:(aW G).Rd w [.slice ad nd cd] ds) (hw:bh ms ds<=2097152) (ha:bf x ms ds=true):
 Calls Tryz.prog 19 #[.agg #[.int .i64 x.id,.int .i64 x.n,.int .i64 x.s,.slice am nm cm,.int .i64 x.lost,.int .i64 x.xW,.int .i64 x.seq,.int .i64 x.tail,.int .i64 x.gen,.slice ad nd cd,.int .i64 x.xY,.bool x.down,.bool x.xX]] w fun e w'=>e=.returned (.bool (lI x ms ds))/\Below w.heap.size w w':=by
 have hwm:aQ ms<=2097152:=by unfold bh at hw;omega
 obtain ⟨hl,hcp,hcm⟩:=ag h0;have hA:=af w (.cells #[.int .i64 x.id,.int .i64 x.n,.int .i64 x.s,.slice am nm cm,.int .i64 x.lost,.int .i64 x.xW,.int .i64 x.seq,.int .i64 x.tail,.int .i64 x.gen,.slice ad nd cd,.int .i64 x.xY,.bool x.down,.bool x.xX] 31);have X:=Box.new w 31 #[.int .i64 x.id,.int .i64 x.n,.int .i64 x.s,.slice am nm cm,.int .i64 x.lost,.int .i64 x.xW,.int .i64 x.seq,.int .i64 x.tail,.int .i64 x.gen,.slice ad nd cd,.int .i64 x.xY,.bool x.down,.bool x.xX];have zA:=X.lt;obtain ⟨k0,k1,k2,k3,k4,k5,k6,k7,k8,k9,k10,k11,k12⟩:=X.cells13;have r0:=h0.below hA;have r1:=h1.below hA;have hg:bL x.n x.s=true:=by unfold bf at ha;simp only [Bool.and_eq_true] at ha;exact ha.1
 obtain ⟨g1,g2,g3,g4⟩:=aB.1 hg;have HA:=aa ha;have HG:=aa hg;clear ha;go_enter Tryz.func19,Tryz.ntmps19
 go_wp2_with fail
 generalize w.alloc (.cells #[.int .i64 x.id,.int .i64 x.n,.int .i64 x.s,.slice am nm cm,.int .i64 x.lost,.int .i64 x.xW,.int .i64 x.seq,.int .i64 x.tail,.int .i64 x.gen,.slice ad nd cd,.int .i64 x.xY,.bool x.down,.bool x.xX] 31)=W at hA X zA r0 r1 k0 k1 k2 k3 k4 k5 k6 k7 k8 k9 k10 k11 k12 ⊢;refine (jE _ x.n x.s).mono ?_
 rintro e w2 ⟨rfl,b2⟩;rw [qJ HG.out];have X2:=X.below b2 X.lt;have B2:=Below.andThen hA b2;have q2:=r0.below b2;have p2:=r1.below b2;clear k0 k1 k2 k3 k4 k5 k6 k7 k8 k9 k10 k11 k12 X b2 hA r0 r1 hg;obtain ⟨n,hn⟩:∃n:Nat,x.s=(n:Int):=⟨x.s.toNat,by omega⟩;have HNT:Hid (x.s.toNat=n):=by unfold Hid;omega
 have hn8:n<=8:=by omega
 rw [hn];clear hn;go_wp2
 go_loopw [9] (fun i wr=>∃j:Nat,j<=n/\i=.int .i64 j/\km x ms ds j=true/\Below w2.heap.size w2 wr) (fun i _=>n-(intOf i).toNat)
 case atStart=>exact ⟨0,Nat.zero_le _,rfl,rfl,Below.refl _ _⟩
 obtain ⟨j,hj,rfl,he,hb⟩:=hrel;have HE:=aa he;clear he;have Xr:=X2.below hb X2.lt;have zs:=hb.size;by_cases hlt:j<n
 . obtain ⟨k0,k1,k2,k3,k4,k5,k6,k7,k8,k9,k10,k11,k12⟩:=Xr.cells13
   have hlt':(j:Int)<(n:Int):=by omega
   go_wp2_with fail
   refine (jF _ E F G x _ _ _ _ _ _ ms ds (j:Int) (q2.below hb) (p2.below hb) hw HA.out).mono ?_
   rintro e w3 ⟨rfl,b3⟩;have HB3:=aa (hb.trans (b3.mono hb.size));clear k0 k1 k2 k3 k4 k5 k6 k7 k8 k9 k10 k11 k12 Xr b3 hb;have hs:=nP x ms ds j;rw [HE.out] at hs;generalize je x ms ds (j:Int)=z at hs ⊢;cases ht:cT x ms ds (j:Int)
   . have HS:Hid (km x ms ds (j+1)=true):=by unfold Hid;rw [hs,ht];rfl
     clear hs ht;go_wp2
     go_roundw
     case rel=>exact ⟨j+1,by omega,by go_num,HS.out,HB3.out⟩
     case measure=>simp [intOf];omega
   by_cases hz:z=0
   . have HS:Hid (km x ms ds (j+1)=true):=by unfold Hid;rw [hs,ht,hz];rfl
     clear hs ht;subst hz;go_wp2
     go_roundw
     case rel=>exact ⟨j+1,by omega,by go_num,HS.out,HB3.out⟩
     case measure=>simp [intOf];omega
   have HV:Hid (lI x ms ds=false):=by
    unfold Hid lI;rw [HNT.out];refine uO (j:=j+1) ?_ (by omega)
    rw [hs,ht];simp [hz]
   have FB:=aa (B2.trans (HB3.out.mono B2.size));clear hs ht;go_wp2
   go_ret
   exact ⟨by rw [HV.out];rfl,FB.out⟩
 have ej:j=n:=by omega
 subst ej;have HV:Hid (lI x ms ds=true):=by unfold Hid lI;rw [HNT.out];exact HE.out
 have FB:=aa (Below.andThen B2 hb);clear hlt hb;go_wp2
 go_ret
 exact ⟨by rw [HV.out];rfl,FB.out⟩
end Go.Proofs.YtgjomldcnjjpaaaGreat
