/-
 The exact law of GetBlock holds: for every array and every number the law returns true. No condition.
-/
import Derived.Test.YtfimpohbpccjaaaGreatRowGetBlockSq19
import Derived.Test.YtfimpohbpccjaaaGreatRowGetBlockSq3
import Derived.Test.YtfimpohbpccjaaaGreatRowGetBlockSq10
import Derived.Test.YtfimpohbpccjaaaGreatRows
import Derived.Lib.SmallJoins
import Derived.Test.YtfimpohbpccjaaaGreatRowGetBlockSq12
import Derived.Test.YtfimpohbpccjaaaGreatRowGetBlockSq8
import Derived.WalkKit
import Derived.ProofKit
import Derived.OpenShut
import Derived.ShutString
import Derived.ChangeOld
import Derived.Below

set_option maxRecDepth 100000
set_option maxHeartbeats 8000000
set_option linter.unusedSimpArgs false

namespace Go.Proofs.YtfimpohbpccjaaaGreat
open Go.RowKit

theorem dZ (w:World) (E F G:TypeId) (x:aw) (am ad:Option Addr) (nm cm nd cd:Nat) (ms:List ax) (ds:List (Int×List Int)) (b:Int) (h0:(bf E F).Rd w [.slice am nm cm] ms) (h1:(aV G).Rd w [.slice ad nd cd] ds) (hw:bh ms ds<=2097152):
 Calls Tryz.prog 5 #[.agg #[.int .i64 x.id,.int .i64 x.n,.int .i64 x.s,.slice am nm cm,.int .i64 x.lost,.int .i64 x.jh,.int .i64 x.seq,.int .i64 x.tail,.int .i64 x.gen,.slice ad nd cd,.int .i64 x.jj,.bool x.down,.bool x.ji],.int .i64 b] w fun e w'=>e=.returned (.tuple #[.int .i64 (dX x ms ds b),.int .i64 (df x ms ds b)])/\Below w.heap.size w w':=by
 have hA:=af w (.cells #[.int .i64 x.id,.int .i64 x.n,.int .i64 x.s,.slice am nm cm,.int .i64 x.lost,.int .i64 x.jh,.int .i64 x.seq,.int .i64 x.tail,.int .i64 x.gen,.slice ad nd cd,.int .i64 x.jj,.bool x.down,.bool x.ji] 35);have X:=Box.new w 35 #[.int .i64 x.id,.int .i64 x.n,.int .i64 x.s,.slice am nm cm,.int .i64 x.lost,.int .i64 x.jh,.int .i64 x.seq,.int .i64 x.tail,.int .i64 x.gen,.slice ad nd cd,.int .i64 x.jj,.bool x.down,.bool x.ji];have zX:=X.lt;obtain ⟨k0,k1,k2,k3,k4,k5,k6,k7,k8,k9,k10,k11,k12⟩:=X.cells13;have r0:=h0.below hA;have r1:=h1.below hA;have HC:Hid (df x ms ds b=if bu x ms ds b=0 then (if ok8 x ms ds (ao x.n x.s b)=true then 0 else 5) else bu x ms ds b):=rfl;have HV:Hid (dX x ms ds b=if bu x ms ds b=0/\ok8 x ms ds (ao x.n x.s b)=true then (cC x ms ds (ao x.n x.s b)).getD (aR x.n x.s b).toNat 0 else 0):=rfl;go_enter Tryz.func5,Tryz.ntmps5
 go_wp2_with fail
 generalize w.alloc (.cells #[.int .i64 x.id,.int .i64 x.n,.int .i64 x.s,.slice am nm cm,.int .i64 x.lost,.int .i64 x.jh,.int .i64 x.seq,.int .i64 x.tail,.int .i64 x.gen,.slice ad nd cd,.int .i64 x.jj,.bool x.down,.bool x.ji] 35)=W at hA X zX r0 r1 k0 k1 k2 k3 k4 k5 k6 k7 k8 k9 k10 k11 k12 ⊢;refine (gP _ E F G x _ _ _ _ _ _ ms ds b r0 r1 hw).mono ?_
 rintro e w1 ⟨rfl,b1⟩;have X1:=X.below b1 zX;have zX1:=X1.lt;have p0:=r0.below b1;have p1:=r1.below b1;have HB1:=ab (Below.andThen hA b1);clear k0 k1 k2 k3 k4 k5 k6 k7 k8 k9 k10 k11 k12 X r0 r1 b1 hA;obtain ⟨k0,k1,k2,k3,k4,k5,k6,k7,k8,k9,k10,k11,k12⟩:=X1.cells13;by_cases hc:bu x ms ds b=0
 . skip
   have HX0:=ab (gY hc);have HC2:Hid (df x ms ds b=if ok8 x ms ds (ao x.n x.s b)=true then 0 else 5):=by unfold Hid;rw [HC.out,if_pos hc]
   have HV2:Hid (dX x ms ds b=if ok8 x ms ds (ao x.n x.s b)=true then (cC x ms ds (ao x.n x.s b)).getD (aR x.n x.s b).toNat 0 else 0):=by
    unfold Hid;rw [HV.out];by_cases hk:ok8 x ms ds (ao x.n x.s b)=true
    . rw [if_pos ⟨hc,hk⟩,if_pos hk]
    rw [if_neg (fun h=>hk h.2),if_neg hk]
   obtain ⟨s1,s2,i1,i2⟩:=eN (cW HX0.out.2.1) HX0.out.2.2.2;have ht:inB (ao x.n x.s b) 0 (x.s-1)=true:=aP.2 ⟨s1,s2⟩;have hg:=cW HX0.out.2.1;have HDL:=ab (fun hk=>fW (s:=ao x.n x.s b) HX0.out.2.1 hk);rw [hc];clear hc HC HV HX0;have hS:w1.drew.cell? ⟨w.heap.size,0,none⟩=some (.int .i64 x.id)/\w1.drew.cell? ⟨w.heap.size,1,none⟩=some (.int .i64 x.n)/\w1.drew.cell? ⟨w.heap.size,2,none⟩=some (.int .i64 x.s)/\w1.drew.cell? ⟨w.heap.size,3,none⟩=some (.slice am nm cm)/\w1.drew.cell? ⟨w.heap.size,4,none⟩=some (.int .i64 x.lost)/\w1.drew.cell? ⟨w.heap.size,5,none⟩=some (.int .i64 x.jh)/\w1.drew.cell? ⟨w.heap.size,6,none⟩=some (.int .i64 x.seq)/\w1.drew.cell? ⟨w.heap.size,7,none⟩=some (.int .i64 x.tail)/\w1.drew.cell? ⟨w.heap.size,8,none⟩=some (.int .i64 x.gen)/\w1.drew.cell? ⟨w.heap.size,9,none⟩=some (.slice ad nd cd)/\w1.drew.cell? ⟨w.heap.size,10,none⟩=some (.int .i64 x.jj)/\w1.drew.cell? ⟨w.heap.size,11,none⟩=some (.bool x.down)/\w1.drew.cell? ⟨w.heap.size,12,none⟩=some (.bool x.ji):=⟨k0,k1,k2,k3,k4,k5,k6,k7,k8,k9,k10,k11,k12⟩;go_wp2_with fail
   refine wp_region_held_drew (S:=fun w'=>w'.cell? ⟨w.heap.size,0,none⟩=some (.int .i64 x.id)/\w'.cell? ⟨w.heap.size,1,none⟩=some (.int .i64 x.n)/\w'.cell? ⟨w.heap.size,2,none⟩=some (.int .i64 x.s)/\w'.cell? ⟨w.heap.size,3,none⟩=some (.slice am nm cm)/\w'.cell? ⟨w.heap.size,4,none⟩=some (.int .i64 x.lost)/\w'.cell? ⟨w.heap.size,5,none⟩=some (.int .i64 x.jh)/\w'.cell? ⟨w.heap.size,6,none⟩=some (.int .i64 x.seq)/\w'.cell? ⟨w.heap.size,7,none⟩=some (.int .i64 x.tail)/\w'.cell? ⟨w.heap.size,8,none⟩=some (.int .i64 x.gen)/\w'.cell? ⟨w.heap.size,9,none⟩=some (.slice ad nd cd)/\w'.cell? ⟨w.heap.size,10,none⟩=some (.int .i64 x.jj)/\w'.cell? ⟨w.heap.size,11,none⟩=some (.bool x.down)/\w'.cell? ⟨w.heap.size,12,none⟩=some (.bool x.ji)) (by kernel_rfl) ?_ (fun jg=>?_)
   . exact hS
   refine aa 0 jg ?_
   refine aa 1 jg ?_
   refine aa 2 jg ?_
   refine aa 3 jg ?_
   refine ah (i:=4) (by kernel_rfl) rfl (by kernel_rfl) (fun K hK=>?_)
   go_simp
   refine (dW _ x.n x.s b).mono ?_
   rintro e w2 ⟨rfl,b2⟩;have b2':Below w1.heap.size w1 w2:=(Below.refl w1.heap.size w1).drew.trans b2;go_wp2_with fail
   clear jg;refine hK.out _ _ ?_ (fun jg=>?_)
   . exact ⟨(b2'.cell (p:=⟨w.heap.size,0,none⟩) zX1).trans k0,(b2'.cell (p:=⟨w.heap.size,1,none⟩) zX1).trans k1,(b2'.cell (p:=⟨w.heap.size,2,none⟩) zX1).trans k2,(b2'.cell (p:=⟨w.heap.size,3,none⟩) zX1).trans k3,(b2'.cell (p:=⟨w.heap.size,4,none⟩) zX1).trans k4,(b2'.cell (p:=⟨w.heap.size,5,none⟩) zX1).trans k5,(b2'.cell (p:=⟨w.heap.size,6,none⟩) zX1).trans k6,(b2'.cell (p:=⟨w.heap.size,7,none⟩) zX1).trans k7,(b2'.cell (p:=⟨w.heap.size,8,none⟩) zX1).trans k8,(b2'.cell (p:=⟨w.heap.size,9,none⟩) zX1).trans k9,(b2'.cell (p:=⟨w.heap.size,10,none⟩) zX1).trans k10,(b2'.cell (p:=⟨w.heap.size,11,none⟩) zX1).trans k11,(b2'.cell (p:=⟨w.heap.size,12,none⟩) zX1).trans k12⟩
   clear hK K;refine ah (i:=5) (by kernel_rfl) rfl (by kernel_rfl) (fun K hK=>?_)
   go_simp
   refine (fy _ E F G x _ _ _ _ _ _ ms ds (ao x.n x.s b) (p0.below b2') (p1.below b2') hw hg ht).mono ?_
   rintro e w4 ⟨a4,l4,c4,rfl,o4,b4⟩;have b4':Below w1.heap.size w1 w4:=Below.andThen b2' b4;go_wp2_with fail
   clear jg;refine hK.out _ _ ?_ (fun jg=>?_)
   . exact ⟨(b4'.cell (p:=⟨w.heap.size,0,none⟩) zX1).trans k0,(b4'.cell (p:=⟨w.heap.size,1,none⟩) zX1).trans k1,(b4'.cell (p:=⟨w.heap.size,2,none⟩) zX1).trans k2,(b4'.cell (p:=⟨w.heap.size,3,none⟩) zX1).trans k3,(b4'.cell (p:=⟨w.heap.size,4,none⟩) zX1).trans k4,(b4'.cell (p:=⟨w.heap.size,5,none⟩) zX1).trans k5,(b4'.cell (p:=⟨w.heap.size,6,none⟩) zX1).trans k6,(b4'.cell (p:=⟨w.heap.size,7,none⟩) zX1).trans k7,(b4'.cell (p:=⟨w.heap.size,8,none⟩) zX1).trans k8,(b4'.cell (p:=⟨w.heap.size,9,none⟩) zX1).trans k9,(b4'.cell (p:=⟨w.heap.size,10,none⟩) zX1).trans k10,(b4'.cell (p:=⟨w.heap.size,11,none⟩) zX1).trans k11,(b4'.cell (p:=⟨w.heap.size,12,none⟩) zX1).trans k12⟩
   clear hK K;refine aa 6 jg ?_
   refine aa 7 jg ?_
   refine aa 8 jg ?_
   refine aa 9 jg ?_
   refine aa 10 jg ?_
   refine wpAnyH_done (by kernel_rfl) ?_ _
   clear jg hS;have BX:=Below.andThen HB1.out b4';have X4:=X1.below b4' zX1;have z4:=b4'.size;clear k0 k1 k2 k3 k4 k5 k6 k7 k8 k9 k10 k11 k12 X1 p0 p1 HB1 b2 b2' b4 b4' hg ht;generalize ao x.n x.s b=s at s1 s2 HC2 HV2 HDL o4 ⊢;cases hok:ok8 x ms ds s
   . have HR:Hid (df x ms ds b=5/\dX x ms ds b=0):=by unfold Hid;rw [HC2.out,HV2.out,hok];exact ⟨rfl,rfl⟩
     have HBX:=ab BX;clear hok BX o4 HDL;go_wp2
     go_ret2
     rw [HR.out.1,HR.out.2];exact ⟨rfl,HBX.out⟩
   have HR:Hid (df x ms ds b=0/\dX x ms ds b=(cC x ms ds s).getD (aR x.n x.s b).toNat 0):=by unfold Hid;rw [HC2.out,HV2.out,hok];exact ⟨rfl,rfl⟩
   have hlen:=HDL.out hok;clear hok HDL HC2 HV2;obtain ⟨k0,k1,k2,k3,k4,k5,k6,k7,k8,k9,k10,k11,k12⟩:=X4.cells13;go_wp2_with fail
   refine (eo _ x.n x.s b).mono ?_
   rintro e w5 ⟨rfl,b5⟩;have o5:=o4.rd.below b5;have HBX:=ab (Below.andThen BX b5);clear k0 k1 k2 k3 k4 k5 k6 k7 k8 k9 k10 k11 k12 b5 BX o4 X4;generalize aR x.n x.s b=ix at i1 i2 HR ⊢;obtain ⟨i,rfl⟩:=Int.eq_ofNat_of_zero_le i1;rw [Int.toNat_natCast] at HR;generalize cC x ms ds s=zs at o5 hlen HR ⊢;obtain ⟨hr5,hl5,_,_⟩:=az o5;rcases hr5.cases with h0'|⟨bb,off,rfl,hbl,hcz⟩
   . omega
   have hci:=hcz i (by omega);have i3:(i:Int)<(l4:Int):=by omega
   generalize zs.getD i 0=v at hci HR;clear hcz hr5 o5;go_wp2
   go_ret2
   rw [HR.out.1,HR.out.2];exact ⟨rfl,HBX.out⟩
 have HR:Hid (df x ms ds b=bu x ms ds b/\dX x ms ds b=0):=by unfold Hid;rw [HC.out,HV.out,if_neg hc,if_neg (fun h=>hc h.1)];exact ⟨rfl,rfl⟩
 skip
 have e0:(bu x ms ds b !=0)=true:=by simpa using hc
 clear hc;generalize bu x ms ds b=q at e0 HR ⊢;go_wp2
 go_ret2
 rw [HR.out.1,HR.out.2];exact ⟨rfl,HB1.out⟩
theorem eb (w:World) (E F G:TypeId) (x:aw) (am ad:Option Addr) (nm cm nd cd:Nat) (ms:List ax) (ds:List (Int×List Int)) (b:Int) (h0:(bf E F).Rd w [.slice am nm cm] ms) (h1:(aV G).Rd w [.slice ad nd cd] ds) (hw:bh ms ds<=2097152):
 Calls Tryz.prog 7 #[.agg #[.int .i64 x.id,.int .i64 x.n,.int .i64 x.s,.slice am nm cm,.int .i64 x.lost,.int .i64 x.jh,.int .i64 x.seq,.int .i64 x.tail,.int .i64 x.gen,.slice ad nd cd,.int .i64 x.jj,.bool x.down,.bool x.ji],.int .i64 b] w fun e w'=>e=.returned (.tuple #[.int .i64 (dX x ms ds b),.int .i64 (df x ms ds b)])/\Below w.heap.size w w':=by
 have hA:=af w (.cells #[.int .i64 x.id,.int .i64 x.n,.int .i64 x.s,.slice am nm cm,.int .i64 x.lost,.int .i64 x.jh,.int .i64 x.seq,.int .i64 x.tail,.int .i64 x.gen,.slice ad nd cd,.int .i64 x.jj,.bool x.down,.bool x.ji] 35);have X:=Box.new w 35 #[.int .i64 x.id,.int .i64 x.n,.int .i64 x.s,.slice am nm cm,.int .i64 x.lost,.int .i64 x.jh,.int .i64 x.seq,.int .i64 x.tail,.int .i64 x.gen,.slice ad nd cd,.int .i64 x.jj,.bool x.down,.bool x.ji];have zX:=X.lt;obtain ⟨k0,k1,k2,k3,k4,k5,k6,k7,k8,k9,k10,k11,k12⟩:=X.cells13;have r0:=h0.below hA;have r1:=h1.below hA;have HC:Hid (df x ms ds b=if bu x ms ds b=0 then (if ok8 x ms ds (ao x.n x.s b)=true then 0 else 5) else bu x ms ds b):=rfl;have HV:Hid (dX x ms ds b=if bu x ms ds b=0/\ok8 x ms ds (ao x.n x.s b)=true then (cC x ms ds (ao x.n x.s b)).getD (aR x.n x.s b).toNat 0 else 0):=rfl;go_enter Tryz.func7,Tryz.ntmps7
 go_wp2_with fail
 generalize w.alloc (.cells #[.int .i64 x.id,.int .i64 x.n,.int .i64 x.s,.slice am nm cm,.int .i64 x.lost,.int .i64 x.jh,.int .i64 x.seq,.int .i64 x.tail,.int .i64 x.gen,.slice ad nd cd,.int .i64 x.jj,.bool x.down,.bool x.ji] 35)=W at hA X zX r0 r1 k0 k1 k2 k3 k4 k5 k6 k7 k8 k9 k10 k11 k12 ⊢;refine (dY _ x.n x.s b).mono ?_
 rintro e wa ⟨rfl,ba⟩;have Xa:=X.below ba zX;have zXa:=Xa.lt;have q0:=r0.below ba;have q1:=r1.below ba;have HBa:=ab (Below.andThen hA ba);clear k0 k1 k2 k3 k4 k5 k6 k7 k8 k9 k10 k11 k12 X r0 r1 ba hA;obtain ⟨k0,k1,k2,k3,k4,k5,k6,k7,k8,k9,k10,k11,k12⟩:=Xa.cells13;go_wp2_with fail
 refine (eE _ E F G x _ _ _ _ _ _ ms ds (ao x.n x.s b) q0 q1 hw).mono ?_
 rintro e w1 ⟨rfl,b1⟩;rw [iy b];have X1:=Xa.below b1 zXa;have zX1:=X1.lt;have p0:=q0.below b1;have p1:=q1.below b1;have HB1:=ab (Below.andThen HBa.out b1);clear k0 k1 k2 k3 k4 k5 k6 k7 k8 k9 k10 k11 k12 Xa q0 q1 b1 HBa;obtain ⟨k0,k1,k2,k3,k4,k5,k6,k7,k8,k9,k10,k11,k12⟩:=X1.cells13;by_cases hc:bu x ms ds b=0
 . skip
   have HX0:=ab (gY hc);have HC2:Hid (df x ms ds b=if ok8 x ms ds (ao x.n x.s b)=true then 0 else 5):=by unfold Hid;rw [HC.out,if_pos hc]
   have HV2:Hid (dX x ms ds b=if ok8 x ms ds (ao x.n x.s b)=true then (cC x ms ds (ao x.n x.s b)).getD (aR x.n x.s b).toNat 0 else 0):=by
    unfold Hid;rw [HV.out];by_cases hk:ok8 x ms ds (ao x.n x.s b)=true
    . rw [if_pos ⟨hc,hk⟩,if_pos hk]
    rw [if_neg (fun h=>hk h.2),if_neg hk]
   obtain ⟨s1,s2,i1,i2⟩:=eN (cW HX0.out.2.1) HX0.out.2.2.2;have ht:inB (ao x.n x.s b) 0 (x.s-1)=true:=aP.2 ⟨s1,s2⟩;have hg:=cW HX0.out.2.1;have HDL:=ab (fun hk=>fW (s:=ao x.n x.s b) HX0.out.2.1 hk);rw [hc];clear hc HC HV;generalize hS:ao x.n x.s b=s at s1 s2 HC2 HV2 HDL ht ⊢;clear hS;go_wp2_with fail
   refine (gd _ E F G x _ _ _ _ _ _ ms ds s p0 p1 hw HX0.out.2.1 ht).mono ?_
   rintro e w4 ⟨a4,l4,c4,rfl,o4,b4⟩;have BX:=Below.andThen HB1.out b4;have X4:=X1.below b4 zX1;have z4:=b4.size;clear k0 k1 k2 k3 k4 k5 k6 k7 k8 k9 k10 k11 k12 X1 p0 p1 HB1 b4 hg ht HX0;cases hok:ok8 x ms ds s
   . have HR:Hid (df x ms ds b=5/\dX x ms ds b=0):=by unfold Hid;rw [HC2.out,HV2.out,hok];exact ⟨rfl,rfl⟩
     have HBX:=ab BX;clear hok BX o4 HDL;go_wp2
     go_ret2
     rw [HR.out.1,HR.out.2];exact ⟨rfl,HBX.out⟩
   have HR:Hid (df x ms ds b=0/\dX x ms ds b=(cC x ms ds s).getD (aR x.n x.s b).toNat 0):=by unfold Hid;rw [HC2.out,HV2.out,hok];exact ⟨rfl,rfl⟩
   have hlen:=HDL.out hok;clear hok HDL HC2 HV2;obtain ⟨k0,k1,k2,k3,k4,k5,k6,k7,k8,k9,k10,k11,k12⟩:=X4.cells13;go_wp2_with fail
   refine (er _ x.n x.s b).mono ?_
   rintro e w5 ⟨rfl,b5⟩;have o5:=o4.rd.below b5;have HBX:=ab (Below.andThen BX b5);clear k0 k1 k2 k3 k4 k5 k6 k7 k8 k9 k10 k11 k12 b5 BX o4 X4;generalize aR x.n x.s b=ix at i1 i2 HR ⊢;obtain ⟨i,rfl⟩:=Int.eq_ofNat_of_zero_le i1;rw [Int.toNat_natCast] at HR;generalize cC x ms ds s=zs at o5 hlen HR ⊢;obtain ⟨hr5,hl5,_,_⟩:=az o5;rcases hr5.cases with h0'|⟨bb,off,rfl,hbl,hcz⟩
   . omega
   have hci:=hcz i (by omega);have i3:(i:Int)<(l4:Int):=by omega
   generalize zs.getD i 0=v at hci HR;clear hcz hr5 o5;go_wp2
   go_ret2
   rw [HR.out.1,HR.out.2];exact ⟨rfl,HBX.out⟩
 have HR:Hid (df x ms ds b=bu x ms ds b/\dX x ms ds b=0):=by unfold Hid;rw [HC.out,HV.out,if_neg hc,if_neg (fun h=>hc h.1)];exact ⟨rfl,rfl⟩
 skip
 have e0:(bu x ms ds b !=0)=true:=by simpa using hc
 clear hc;generalize bu x ms ds b=q at e0 HR ⊢;go_wp2
 go_ret2
 rw [HR.out.1,HR.out.2];exact ⟨rfl,HB1.out⟩
theorem dz (x:aw) (am ad:Option Addr) (nm cm nd cd:Nat) (ms:List ax) (ds:List (Int×List Int)) (b:Int) (w:World) (h0:(bf 94 56).Rd w [.slice am nm cm] ms) (h1:(aV 59).Rd w [.slice ad nd cd] ds):
 Calls Tryz.prog 3 #[.agg #[.int .i64 x.id,.int .i64 x.n,.int .i64 x.s,.slice am nm cm,.int .i64 x.lost,.int .i64 x.jh,.int .i64 x.seq,.int .i64 x.tail,.int .i64 x.gen,.slice ad nd cd,.int .i64 x.jj,.bool x.down,.bool x.ji],.int .i64 b] w fun e w'=>e=.returned (.bool true)/\Below w.heap.size w w':=by
 have hA:=af w (.cells #[.int .i64 x.id,.int .i64 x.n,.int .i64 x.s,.slice am nm cm,.int .i64 x.lost,.int .i64 x.jh,.int .i64 x.seq,.int .i64 x.tail,.int .i64 x.gen,.slice ad nd cd,.int .i64 x.jj,.bool x.down,.bool x.ji] 27);have xm:=Box.new w 27 #[.int .i64 x.id,.int .i64 x.n,.int .i64 x.s,.slice am nm cm,.int .i64 x.lost,.int .i64 x.jh,.int .i64 x.seq,.int .i64 x.tail,.int .i64 x.gen,.slice ad nd cd,.int .i64 x.jj,.bool x.down,.bool x.ji];have z0:=xm.lt;have B0:=ab hA;have BR0:=ab xm;obtain ⟨l0,l1,l2,l3,l4,l5,l6,l7,l8,l9,l10,l11,l12⟩:=xm.cells13;go_enter Tryz.func3,Tryz.ntmps3
 go_wp2_with fail
 generalize w.alloc (.cells #[.int .i64 x.id,.int .i64 x.n,.int .i64 x.s,.slice am nm cm,.int .i64 x.lost,.int .i64 x.jh,.int .i64 x.seq,.int .i64 x.tail,.int .i64 x.gen,.slice ad nd cd,.int .i64 x.jj,.bool x.down,.bool x.ji] 27)=w0 at hA xm z0 B0 BR0 l0 l1 l2 l3 l4 l5 l6 l7 l8 l9 l10 l11 l12 ⊢;clear hA xm;refine (ic _ 94 56 59 x _ _ _ _ _ _ ms ds _ (h0.below B0.out) (h1.below B0.out) (by omega) (by omega)).mono ?_
 rintro e w1 ⟨rfl,hb1⟩;clear l0 l1 l2 l3 l4 l5 l6 l7 l8 l9 l10 l11 l12;have B1:=ab (Below.andThen B0.out hb1);have BR1:=ab (BR0.out.below hb1 (by omega));have z1:=hb1.size;clear B0 BR0 hb1;by_cases hwt:(bh ms ds:Int)<=1048576
 . have hq:=aD hwt
   have hwt':bh ms ds<=1048576:=by omega
   have hwt2:bh ms ds<=2097152:=by omega
   obtain ⟨gv,hgv⟩:∃gv,dX x ms ds b=gv:=⟨_,rfl⟩;obtain ⟨gc,hgc⟩:∃gc,df x ms ds b=gc:=⟨_,rfl⟩;have HGV:=ab hgv;have HGC:=ab hgc;clear hgv hgc;have hv:(gv !=gv)=false:=by simp
   have hv':(gc !=gc)=false:=by simp
   obtain ⟨l0,l1,l2,l3,l4,l5,l6,l7,l8,l9,l10,l11,l12⟩:=BR1.out.cells13;go_wp2_with fail
   refine (dR _ 94 56 59 x _ _ _ _ _ _ ms ds (h0.below B1.out) (h1.below B1.out) hwt').mono ?_
   rintro e w2 ⟨bm2,bd2,rfl,om2,od2,ya2,yb2,hb2⟩;clear l0 l1 l2 l3 l4 l5 l6 l7 l8 l9 l10 l11 l12;have B2:=ab (Below.andThen B1.out hb2);have BR2:=ab (BR1.out.below hb2 (by omega));have z2:=hb2.size;clear B1 BR1 hb2;have Cm2:=ab om2;clear om2;have Cd2:=ab od2;clear od2;go_wp2_with fail
   refine (dZ _ 98 66 63 x _ _ _ _ _ _ ms ds b Cm2.out.rd Cd2.out.rd hwt2).mono ?_
   rintro e w3 ⟨rfl,hb3⟩;rw [HGV.out,HGC.out];clear Cm2;clear Cd2;have B3:=ab (Below.andThen B2.out hb3);have BR3:=ab (BR2.out.below hb3 (by omega));have z3:=hb3.size;clear B2 BR2 hb3;obtain ⟨l0,l1,l2,l3,l4,l5,l6,l7,l8,l9,l10,l11,l12⟩:=BR3.out.cells13;go_wp2_with fail
   refine (dR _ 94 56 59 x _ _ _ _ _ _ ms ds (h0.below B3.out) (h1.below B3.out) hwt').mono ?_
   rintro e w4 ⟨bm4,bd4,rfl,om4,od4,ya4,yb4,hb4⟩;clear l0 l1 l2 l3 l4 l5 l6 l7 l8 l9 l10 l11 l12;have B4:=ab (Below.andThen B3.out hb4);have BR4:=ab (BR3.out.below hb4 (by omega));have z4:=hb4.size;clear B3 BR3 hb4;have Dm4:=ab om4;clear om4;have Dd4:=ab od4;clear od4;have ba:Below w4.heap.size w4 (w4.alloc (.cells #[.int .i64 x.id,.int .i64 x.n,.int .i64 x.s,.slice (some ⟨bm4,0,none⟩) nm nm,.int .i64 x.lost,.int .i64 x.jh,.int .i64 x.seq,.int .i64 x.tail,.int .i64 x.gen,.slice (some ⟨bd4,0,none⟩) nd nd,.int .i64 x.jj,.bool x.down,.bool x.ji] 35)):=(Below.refl _ _).alloc (Nat.le_refl _) _;have xb:=Box.new w4 35 #[.int .i64 x.id,.int .i64 x.n,.int .i64 x.s,.slice (some ⟨bm4,0,none⟩) nm nm,.int .i64 x.lost,.int .i64 x.jh,.int .i64 x.seq,.int .i64 x.tail,.int .i64 x.gen,.slice (some ⟨bd4,0,none⟩) nd nd,.int .i64 x.jj,.bool x.down,.bool x.ji];have zx:=xb.lt;have B5:=ab (Below.andThen B4.out ba);have BR5:=ab (BR4.out.below ba (by omega));have Dm5:=ab (Dm4.out.below ba);have Dd5:=ab (Dd4.out.below ba);have z5:=ba.size;clear B4 BR4 Dm4 Dd4 ba;have BX5:=ab xb;clear xb;obtain ⟨q0,q1,q2,q3,q4,q5,q6,q7,q8,q9,q10,q11,q12⟩:=BX5.out.cells13;go_wp2_with fail
   generalize w4.alloc (.cells #[.int .i64 x.id,.int .i64 x.n,.int .i64 x.s,.slice (some ⟨bm4,0,none⟩) nm nm,.int .i64 x.lost,.int .i64 x.jh,.int .i64 x.seq,.int .i64 x.tail,.int .i64 x.gen,.slice (some ⟨bd4,0,none⟩) nd nd,.int .i64 x.jj,.bool x.down,.bool x.ji] 35)=w5 at B5 BR5 Dm5 Dd5 BX5 z5 zx q0 q1 q2 q3 q4 q5 q6 q7 q8 q9 q10 q11 q12 ⊢;refine (eb _ 98 66 63 x _ _ _ _ _ _ ms ds b Dm5.out.rd Dd5.out.rd hwt2).mono ?_
   rintro e w6 ⟨rfl,hb6⟩;rw [HGV.out,HGC.out];clear q0 q1 q2 q3 q4 q5 q6 q7 q8 q9 q10 q11 q12;have B6:=ab (Below.andThen B5.out hb6);have BR6:=ab (BR5.out.below hb6 (by omega));have Dm6:=ab (Dm5.out.below hb6);have Dd6:=ab (Dd5.out.below hb6);have BX6:=ab (BX5.out.below hb6 (by omega));have z6:=hb6.size;clear B5 BR5 Dm5 Dd5 BX5 hb6;obtain ⟨y0,y1,y2,y3,y4,y5,y6,y7,y8,y9,y10,y11,y12⟩:=BX6.out.cells13;obtain ⟨l0,l1,l2,l3,l4,l5,l6,l7,l8,l9,l10,l11,l12⟩:=BR6.out.cells13;have zl:=BR6.out.lt;have zy:=BX6.out.lt;go_wp2_with fail
   refine wp_region_held_drew (S:=fun w'=>w'.cell? ⟨w4.heap.size,0,none⟩=some (.int .i64 x.id)/\w'.cell? ⟨w4.heap.size,1,none⟩=some (.int .i64 x.n)/\w'.cell? ⟨w4.heap.size,2,none⟩=some (.int .i64 x.s)/\w'.cell? ⟨w4.heap.size,3,none⟩=some (.slice (some ⟨bm4,0,none⟩) nm nm)/\w'.cell? ⟨w4.heap.size,4,none⟩=some (.int .i64 x.lost)/\w'.cell? ⟨w4.heap.size,5,none⟩=some (.int .i64 x.jh)/\w'.cell? ⟨w4.heap.size,6,none⟩=some (.int .i64 x.seq)/\w'.cell? ⟨w4.heap.size,7,none⟩=some (.int .i64 x.tail)/\w'.cell? ⟨w4.heap.size,8,none⟩=some (.int .i64 x.gen)/\w'.cell? ⟨w4.heap.size,9,none⟩=some (.slice (some ⟨bd4,0,none⟩) nd nd)/\w'.cell? ⟨w4.heap.size,10,none⟩=some (.int .i64 x.jj)/\w'.cell? ⟨w4.heap.size,11,none⟩=some (.bool x.down)/\w'.cell? ⟨w4.heap.size,12,none⟩=some (.bool x.ji)/\w'.cell? ⟨w.heap.size,0,none⟩=some (.int .i64 x.id)/\w'.cell? ⟨w.heap.size,1,none⟩=some (.int .i64 x.n)/\w'.cell? ⟨w.heap.size,2,none⟩=some (.int .i64 x.s)/\w'.cell? ⟨w.heap.size,3,none⟩=some (.slice am nm cm)/\w'.cell? ⟨w.heap.size,4,none⟩=some (.int .i64 x.lost)/\w'.cell? ⟨w.heap.size,5,none⟩=some (.int .i64 x.jh)/\w'.cell? ⟨w.heap.size,6,none⟩=some (.int .i64 x.seq)/\w'.cell? ⟨w.heap.size,7,none⟩=some (.int .i64 x.tail)/\w'.cell? ⟨w.heap.size,8,none⟩=some (.int .i64 x.gen)/\w'.cell? ⟨w.heap.size,9,none⟩=some (.slice ad nd cd)/\w'.cell? ⟨w.heap.size,10,none⟩=some (.int .i64 x.jj)/\w'.cell? ⟨w.heap.size,11,none⟩=some (.bool x.down)/\w'.cell? ⟨w.heap.size,12,none⟩=some (.bool x.ji)) (by kernel_rfl) ?_ (fun jg=>?_)
   . exact ⟨y0,y1,y2,y3,y4,y5,y6,y7,y8,y9,y10,y11,y12,l0,l1,l2,l3,l4,l5,l6,l7,l8,l9,l10,l11,l12⟩
   refine ak (i:=0) (v:=?_) rfl (by kernel_rfl) (by kernel_rfl) (by kernel_rfl) (fun _ _ _ h=>h) (by kernel_rfl) ?_ jg ?_
   rotate_left 1
   . (intro w hSw;(try dsimp only at hSw);go_split_ands;go_simp;first|done|with_reducible rfl)
   simp only [Act.put,List.setIfInBounds_toArray,List.set_cons_zero,List.set_cons_succ]
   refine ak (i:=1) (v:=?_) rfl (by kernel_rfl) (by kernel_rfl) (by kernel_rfl) (fun _ _ _ h=>h) (by kernel_rfl) ?_ jg ?_
   rotate_left 1
   . (intro w hSw;(try dsimp only at hSw);go_split_ands;go_simp;first|done|with_reducible rfl)
   simp only [Act.put,List.setIfInBounds_toArray,List.set_cons_zero,List.set_cons_succ]
   refine ah (i:=2) (by kernel_rfl) rfl (by kernel_rfl) (fun K hK=>?_)
   go_simp
   refine (dR _ 94 56 59 x _ _ _ _ _ _ ms ds (h0.below B6.out).drew (h1.below B6.out).drew hwt').mono ?_
   rintro e w7 ⟨bm7,bd7,rfl,om7,od7,ya7,yb7,hb7⟩;have hb7':Below w6.heap.size w6 w7:=(Below.refl w6.heap.size w6).drew.trans hb7;go_wp2_with fail
   clear jg;refine hK.out _ _ ?_ (fun jg=>?_)
   . exact ⟨(hb7'.cell (p:=⟨w4.heap.size,0,none⟩) zy).trans y0,(hb7'.cell (p:=⟨w4.heap.size,1,none⟩) zy).trans y1,(hb7'.cell (p:=⟨w4.heap.size,2,none⟩) zy).trans y2,(hb7'.cell (p:=⟨w4.heap.size,3,none⟩) zy).trans y3,(hb7'.cell (p:=⟨w4.heap.size,4,none⟩) zy).trans y4,(hb7'.cell (p:=⟨w4.heap.size,5,none⟩) zy).trans y5,(hb7'.cell (p:=⟨w4.heap.size,6,none⟩) zy).trans y6,(hb7'.cell (p:=⟨w4.heap.size,7,none⟩) zy).trans y7,(hb7'.cell (p:=⟨w4.heap.size,8,none⟩) zy).trans y8,(hb7'.cell (p:=⟨w4.heap.size,9,none⟩) zy).trans y9,(hb7'.cell (p:=⟨w4.heap.size,10,none⟩) zy).trans y10,(hb7'.cell (p:=⟨w4.heap.size,11,none⟩) zy).trans y11,(hb7'.cell (p:=⟨w4.heap.size,12,none⟩) zy).trans y12,(hb7'.cell (p:=⟨w.heap.size,0,none⟩) zl).trans l0,(hb7'.cell (p:=⟨w.heap.size,1,none⟩) zl).trans l1,(hb7'.cell (p:=⟨w.heap.size,2,none⟩) zl).trans l2,(hb7'.cell (p:=⟨w.heap.size,3,none⟩) zl).trans l3,(hb7'.cell (p:=⟨w.heap.size,4,none⟩) zl).trans l4,(hb7'.cell (p:=⟨w.heap.size,5,none⟩) zl).trans l5,(hb7'.cell (p:=⟨w.heap.size,6,none⟩) zl).trans l6,(hb7'.cell (p:=⟨w.heap.size,7,none⟩) zl).trans l7,(hb7'.cell (p:=⟨w.heap.size,8,none⟩) zl).trans l8,(hb7'.cell (p:=⟨w.heap.size,9,none⟩) zl).trans l9,(hb7'.cell (p:=⟨w.heap.size,10,none⟩) zl).trans l10,(hb7'.cell (p:=⟨w.heap.size,11,none⟩) zl).trans l11,(hb7'.cell (p:=⟨w.heap.size,12,none⟩) zl).trans l12⟩
   clear hK K;refine ah (i:=3) (by kernel_rfl) rfl (by kernel_rfl) (fun K hK=>?_)
   go_simp
   refine (gu _ 98 98 66 66 63 63 x _ _ _ _ _ _ _ _ _ _ _ _ ms ds (Dm6.out.below hb7').rd (Dd6.out.below hb7').rd om7.rd od7.rd hwt2).mono ?_
   rintro e w8 ⟨rfl,hb8⟩;have hb8':Below w6.heap.size w6 w8:=Below.andThen hb7' hb8;go_wp2_with fail
   clear jg;refine hK.out _ _ ?_ (fun jg=>?_)
   . exact ⟨(hb8'.cell (p:=⟨w4.heap.size,0,none⟩) zy).trans y0,(hb8'.cell (p:=⟨w4.heap.size,1,none⟩) zy).trans y1,(hb8'.cell (p:=⟨w4.heap.size,2,none⟩) zy).trans y2,(hb8'.cell (p:=⟨w4.heap.size,3,none⟩) zy).trans y3,(hb8'.cell (p:=⟨w4.heap.size,4,none⟩) zy).trans y4,(hb8'.cell (p:=⟨w4.heap.size,5,none⟩) zy).trans y5,(hb8'.cell (p:=⟨w4.heap.size,6,none⟩) zy).trans y6,(hb8'.cell (p:=⟨w4.heap.size,7,none⟩) zy).trans y7,(hb8'.cell (p:=⟨w4.heap.size,8,none⟩) zy).trans y8,(hb8'.cell (p:=⟨w4.heap.size,9,none⟩) zy).trans y9,(hb8'.cell (p:=⟨w4.heap.size,10,none⟩) zy).trans y10,(hb8'.cell (p:=⟨w4.heap.size,11,none⟩) zy).trans y11,(hb8'.cell (p:=⟨w4.heap.size,12,none⟩) zy).trans y12,(hb8'.cell (p:=⟨w.heap.size,0,none⟩) zl).trans l0,(hb8'.cell (p:=⟨w.heap.size,1,none⟩) zl).trans l1,(hb8'.cell (p:=⟨w.heap.size,2,none⟩) zl).trans l2,(hb8'.cell (p:=⟨w.heap.size,3,none⟩) zl).trans l3,(hb8'.cell (p:=⟨w.heap.size,4,none⟩) zl).trans l4,(hb8'.cell (p:=⟨w.heap.size,5,none⟩) zl).trans l5,(hb8'.cell (p:=⟨w.heap.size,6,none⟩) zl).trans l6,(hb8'.cell (p:=⟨w.heap.size,7,none⟩) zl).trans l7,(hb8'.cell (p:=⟨w.heap.size,8,none⟩) zl).trans l8,(hb8'.cell (p:=⟨w.heap.size,9,none⟩) zl).trans l9,(hb8'.cell (p:=⟨w.heap.size,10,none⟩) zl).trans l10,(hb8'.cell (p:=⟨w.heap.size,11,none⟩) zl).trans l11,(hb8'.cell (p:=⟨w.heap.size,12,none⟩) zl).trans l12⟩
   clear hK K;refine ak (i:=4) (v:=?_) rfl (by kernel_rfl) (by kernel_rfl) (by kernel_rfl) (fun _ _ _ h=>h) (by kernel_rfl) ?_ jg ?_
   rotate_left 1
   . (intro w hSw;(try dsimp only at hSw);go_split_ands;go_simp;first|done|with_reducible rfl)
   simp only [Act.put,List.setIfInBounds_toArray,List.set_cons_zero,List.set_cons_succ]
   refine wpAnyH_done (by kernel_rfl) ?_ _
   clear jg;clear y0 y1 y2 y3 y4 y5 y6 y7 y8 y9 y10 y11 y12 l0 l1 l2 l3 l4 l5 l6 l7 l8 l9 l10 l11 l12;clear zl zy om7 od7 ya7 yb7 hb7 hb8 hb7';have B8:=ab (Below.andThen B6.out hb8');have BR8:=ab (BR6.out.below hb8' (by omega));have Dm8:=ab (Dm6.out.below hb8');have Dd8:=ab (Dd6.out.below hb8');have BX8:=ab (BX6.out.below hb8' (by omega));have z8:=hb8'.size;clear B6 BR6 Dm6 Dd6 BX6 hb8';go_wp2
   go_ret
   exact ⟨rfl,B8.out⟩
 have hq:=ar (left:=1048576) (wt:=bh ms ds) (by omega);go_wp2
 go_ret
 exact ⟨rfl,B1.out⟩
end Go.Proofs.YtfimpohbpccjaaaGreat

namespace Go.Proofs.YtfimpohbpccjaaaGreat.fnExactGetBlock
open Go.ChangeShapes Go.WideShapes Go.ChangeAt Go.RowKit Go.Joins
open Go.ChangeMaps (open_string shut_string)
set_option linter.unusedVariables false
theorem own:ownKnob Tryz.prog.godebug=none:=by kernel_rfl
theorem gZ:laidOutB Tryz.prog=true:=by kernel_rfl
theorem lifted (os:Os) (started:os.Started) (H:Type) (enc:TypeId×Value->H):
 ReturnsInHanded {} Tryz.checked os 3 .any (Rows.fnExactGetBlockSpec.pre6 enc Tryz.prog Tryz.f3 Rows.fnExactGetBlockRow.domain false) (Rows.fnExactGetBlockSpec.post enc Tryz.prog Tryz.f3 false true false false):=by
 refine returnsInHanded_of_change (C:=Tryz.checked) own started (by kernel_rfl) Tryz.func3
  (ChangeSpec.witness6 (enc:=enc) (C:=Tryz.checked) false ⟨#[],#[.agg #[.int .i64 0,.int .i64 0,.int .i64 0,.slice none 0 0,.int .i64 0,.int .i64 0,.int .i64 0,.int .i64 0,.int .i64 0,.slice none 0 0,.int .i64 0,.bool false,.bool false],.int .i64 0],[]⟩ 8 (by kernel_rfl) (by kernel_rfl) (by kernel_rfl) (by kernel_rfl)) ?_
 intro W base args ds gs before hval0 hW hcnd _;have hval:∀(j:Nat) t v,Tryz.f3.params[j]?=some t->args[j]?=some v->Value.okWide Tryz.prog W .any base t v:=hval0;have hW':=hW;obtain ⟨p,q,hA0,hV,rfl,hfz,hnd⟩:=hW;have hA:DataW.TrodAll enc Tryz.prog W 0 (fun _=>true) true Tryz.f3.params.toList args.toList ds p:=hA0;rw [Tryz.params3] at hA hval;obtain ⟨v0,vs0,d0,ds0,p0,q0,hargs0,rfl,rfl,h0,r0⟩:=trodAll_cons hA;obtain ⟨v1,vs1,d1,ds1,p1,q1,hargs1,rfl,rfl,h1,r1⟩:=trodAll_cons r0;obtain ⟨rfl,rfl,rfl⟩:=trodAll_nil r1;obtain rfl:args=#[v0,v1]:=by cases args;simp_all
 obtain ⟨rfl,rfl⟩:=trodVars_none hV;have k0:=h0;have lt0:∀x∈p0,x.block<W.heap.size:=by obtain ⟨m,hm⟩:=k0;exact DataW.trod_lt m _ _ _ hm
 obtain ⟨x0,am0,ad0,cm0,cd0,ms0,ds0,rfl,g0m,g0d⟩:=iV (hval 0 27 v0 rfl rfl) h0;have k1:=h1;have lt1:∀x∈p1,x.block<W.heap.size:=by obtain ⟨m,hm⟩:=k1;exact DataW.trod_lt m _ _ _ hm
 obtain ⟨x1,hv1,_,_,wf1⟩:=open_int Tryz.underlying3 (hval 1 3 v1 rfl rfl) h1;subst hv1;clear hA0 hval0;refine (dz x0 am0 ad0 ms0.length cm0 ds0.length cd0 ms0 ds0 x1 W g0m g0d).mono fun e W' ⟨he,bel⟩=>?_
 subst he;exact ⟨_,rfl,_,_,_,[],_,[],hW',trodAll_mk1 (shut_bool Tryz.underlying4 _),(trodAll_cons_mk (Below.trod gZ (by kernel_rfl) (of_decide_eq_true (by kernel_rfl)) k0 bel lt0) (trodAll_cons_mk (Below.trod gZ (by kernel_rfl) (of_decide_eq_true (by kernel_rfl)) k1 bel lt1) trodAll_mk0)),rfl,bel.frame _,fun h=>by cases h⟩
theorem over:Rows.fnExactGetBlockRow.holds Tryz.pinned (OpenSpec.ofChange Rows.fnExactGetBlockSpec):=
 OpenClaim.holds_of_wide 3 Tryz.f3 rfl rfl rfl rfl rfl rfl rfl ⟨rfl,rfl,rfl,rfl,rfl⟩ rfl rfl rfl rfl rfl (by kernel_rfl) Tryz.func3 (by kernel_rfl)
  (of_decide_eq_true (by kernel_rfl)) (by unfold Func.isWrapper;first|(rw [if_pos (by decide +kernel)];kernel_rfl)|(rw [if_neg (by decide +kernel)];exact ⟨rfl,rfl⟩))
  (fun os started H enc _=>lifted os started H enc)
end Go.Proofs.YtfimpohbpccjaaaGreat.fnExactGetBlock
namespace Go.Proofs.YtfimpohbpccjaaaGreat
theorem fnExactGetBlock_holds:Rows.FnExactGetBlockSaid:=fnExactGetBlock.over
#print axioms fnExactGetBlock_holds
end Go.Proofs.YtfimpohbpccjaaaGreat

