/-
 The walk of the law of arrays in which a disk fails, or is spoilt, bent or not: whatever bytes it draws from, it answers true, and nothing that was there has turned. No condition.
-/
import Derived.Test.YtejokiafgbjdaaaGreatRowFailsBentSq50
import Derived.Test.YtejokiafgbjdaaaGreatRowFailsBentSq49
import Derived.Test.YtejokiafgbjdaaaGreatRowFailsBentSq48
import Derived.Test.YtejokiafgbjdaaaGreatRowFailsBentSq7
import Derived.Deep.Cut
import Derived.Test.YtejokiafgbjdaaaGreatRowFailsBentSq4
import Derived.Test.YtejokiafgbjdaaaGreatRowFailsBentSq44
import Derived.Test.YtejokiafgbjdaaaGreatRowFailsBentSq41
import Derived.Test.YtejokiafgbjdaaaGreatRowFailsBentSq42
import Derived.Test.YtejokiafgbjdaaaGreatRowFailsBentSq37
import Derived.Test.YtejokiafgbjdaaaGreatRowFailsBentSq31
import Derived.Test.YtejokiafgbjdaaaGreatRowFailsBentSq19
import Derived.Test.YtejokiafgbjdaaaGreatRowFailsBentSq16
import Derived.Test.YtejokiafgbjdaaaGreatRowFailsBentSq3

set_option maxRecDepth 100000
set_option maxHeartbeats 8000000
set_option linter.unusedSimpArgs false

namespace Go.Proofs.YtejokiafgbjdaaaGreat
open Go.RowKit

def DrwI (w:World) (e:Ending) (w':World):Prop:=∃(v:Value) (m:Int),e=.returned (.tuple #[v,.int .i64 m])/\Drw w w' v
def DrwII (w:World) (e:Ending) (w':World):Prop:=∃(v:Value) (m s:Int),e=.returned (.tuple #[v,.int .i64 m,.int .i64 s])/\Drw w w' v
theorem kc (w:World) (a:Option Addr) (lb cb:Nat) (zs:List Int) (hz:zs.length=lb) (hr:aF .u8 w a zs) (hby:∀n∈zs,0<=n/\n<=255) (hlb:lb<=2097152):
 Calls Tryz.prog 21 #[.slice a lb cb] w fun e w'=>DrwI w e w':=by
 have hA:=ah w (.cells #[.int .i64 0,.int .i64 0,.int .i64 0,.slice none 0 0,.int .i64 0,.int .i64 0,.int .i64 0,.int .i64 0,.int .i64 0,.slice none 0 0,.int .i64 0,.bool false,.bool false] 29);have X:=Box.new w 29 #[.int .i64 0,.int .i64 0,.int .i64 0,.slice none 0 0,.int .i64 0,.int .i64 0,.int .i64 0,.int .i64 0,.int .i64 0,.slice none 0 0,.int .i64 0,.bool false,.bool false];have zA:=X.lt;have AH:=aa (hr.ahead hz);go_enter Tryz.func21,Tryz.ntmps21
 go_wp2_with fail
 generalize w.alloc (.cells #[.int .i64 0,.int .i64 0,.int .i64 0,.slice none 0 0,.int .i64 0,.int .i64 0,.int .i64 0,.int .i64 0,.int .i64 0,.slice none 0 0,.int .i64 0,.bool false,.bool false] 29)=W at hA X zA ⊢;refine (jV _ _ _ _ zs hz (hr.below hA) hlb).mono ?_
 rintro e w1 ⟨rfl,hc1,hb1⟩;have D1:aN w1 W.heap.size a lb cb zs:=⟨hc1,hz,(hr.below hA).below hb1,hby,hlb,(hr.below hA).ahead hz⟩;have B1:=Below.andThen hA hb1;have X1:=X.below hb1 zA;have zc:=D1.lt;clear hc1 hA X hb1;go_wp2_with fail
 refine (jj _ _ _ _ 12 hlb (by omega)).mono ?_
 rintro e wq ⟨n,rfl,n0,n1,hq⟩;subst hq;go_wp2_with fail
 refine (ka D1 n n0 (by omega)).mono ?_
 rintro e w2 ⟨x,ms,ds,vm,vd,cvm,cvd,fd,rfl,hm,hd,rd,hwt,D2,b2⟩;have S2:Hid (D8 w w2 w.heap.size wq.heap.size w2.heap.size W.heap.size a lb cb zs #[.int .i64 0,.int .i64 0,.int .i64 0,.slice none 0 0,.int .i64 0,.int .i64 0,.int .i64 0,.int .i64 0,.int .i64 0,.slice none 0 0,.int .i64 0,.bool false,.bool false] x ms ds vm vd cvm cvd fd):=⟨D2,B1.trans (b2.mono (by omega)),X1.below b2 zA,hm,hd,fun b hb=>⟨rd b hb,hd.lt b hb⟩,rfl,zA,zc,b2.size,Nat.le_refl _,AH.out,hwt⟩;clear D1 D2 B1 X1 hm hd rd hwt b2 AH;have nb:=ah w2 (.cells #[.int .i64 x.id,.int .i64 x.n,.int .i64 x.s,.slice vm ms.length cvm,.int .i64 x.lost,.int .i64 x.uG,.int .i64 x.seq,.int .i64 x.tail,.int .i64 x.gen,.slice vd ds.length cvd,.int .i64 x.uI,.bool x.down,.bool x.uH] 29);have Y:=Box.new w2 29 #[.int .i64 x.id,.int .i64 x.n,.int .i64 x.s,.slice vm ms.length cvm,.int .i64 x.lost,.int .i64 x.uG,.int .i64 x.seq,.int .i64 x.tail,.int .i64 x.gen,.slice vd ds.length cvd,.int .i64 x.uI,.bool x.down,.bool x.uH];have S3:=aa (S2.out.below nb);clear S2 nb;unfold aC;go_upto_region 3 with fail
 generalize w2.alloc (.cells #[.int .i64 x.id,.int .i64 x.n,.int .i64 x.s,.slice vm ms.length cvm,.int .i64 x.lost,.int .i64 x.uG,.int .i64 x.seq,.int .i64 x.tail,.int .i64 x.gen,.slice vd ds.length cvd,.int .i64 x.uI,.bool x.down,.bool x.uH] 29)=w3 at S3 Y ⊢;generalize w2.heap.size=B at S3 Y ⊢;obtain ⟨y0,y1,y2,y3,y4,y5,y6,y7,y8,y9,y10,y11,y12⟩:=Y.cells13;go_wp2_with fail
 refine (qO S3.out.1 x vm vd ms.length cvm ds.length cvd).mono ?_
 rintro e w4 ⟨f,rfl,_,D4,b4⟩;have S4:=aa ((S3.out.draw D4 b4).num (x':={x with uI:=f}) rfl);clear S3 D4 b4 Y y0 y1 y2 y3 y4 y5 y6 y7 y8 y9 y10 y11 y12;go_wp2_with fail
 refine (iL S4.out.1).mono ?_
 rintro e w5 ⟨m,rfl,D5,b5⟩;have S5:=aa (S4.out.draw D5 b5);clear S4 D5 b5;have HO:=aa S5.out.out;obtain ⟨_,_,RX,_⟩:=S5.out;unfold aC at HO ⊢;simp only [bM] at HO
 obtain ⟨r0,r1,r2,r3,r4,r5,r6,r7,r8,r9,r10,r11,r12⟩:=RX.cells13;have fzr:=RX.frozen;clear RX S5;go_wp2
 refine bodyPost_ret (by simp [results,Tryz.results21,go_sem,r0,r1,r2,r3,r4,r5,r6,r7,r8,r9,r10,r11,r12];rfl) rfl ?_
 obtain ⟨v,hv,hd⟩:=HO.out;cases hv;exact ⟨_,m,rfl,hd⟩
theorem kV (w:World) (a:Option Addr) (lb cb:Nat) (zs:List Int) (hz:zs.length=lb) (hr:aF .u8 w a zs) (hby:∀n∈zs,0<=n/\n<=255) (hlb:lb<=2097152):
 Calls Tryz.prog 23 #[.slice a lb cb] w fun e w'=>DrwI w e w':=by
 have hA:=ah w (.cells #[.int .i64 0,.int .i64 0,.int .i64 0,.slice none 0 0,.int .i64 0,.int .i64 0,.int .i64 0,.int .i64 0,.int .i64 0,.slice none 0 0,.int .i64 0,.bool false,.bool false] 29);have X:=Box.new w 29 #[.int .i64 0,.int .i64 0,.int .i64 0,.slice none 0 0,.int .i64 0,.int .i64 0,.int .i64 0,.int .i64 0,.int .i64 0,.slice none 0 0,.int .i64 0,.bool false,.bool false];have zA:=X.lt;have AH:=aa (hr.ahead hz);go_enter Tryz.func23,Tryz.ntmps23
 go_wp2_with fail
 generalize w.alloc (.cells #[.int .i64 0,.int .i64 0,.int .i64 0,.slice none 0 0,.int .i64 0,.int .i64 0,.int .i64 0,.int .i64 0,.int .i64 0,.slice none 0 0,.int .i64 0,.bool false,.bool false] 29)=W at hA X zA ⊢;refine (jV _ _ _ _ zs hz (hr.below hA) hlb).mono ?_
 rintro e w1 ⟨rfl,hc1,hb1⟩;have D1:aN w1 W.heap.size a lb cb zs:=⟨hc1,hz,(hr.below hA).below hb1,hby,hlb,(hr.below hA).ahead hz⟩;have B1:=Below.andThen hA hb1;have X1:=X.below hb1 zA;have zc:=D1.lt;clear hc1 hA X hb1;go_wp2_with fail
 refine (jj _ _ _ _ 14 hlb (by omega)).mono ?_
 rintro e wq ⟨n,rfl,n0,n1,hq⟩;subst hq;go_wp2_with fail
 refine (ka D1 n n0 (by omega)).mono ?_
 rintro e w2 ⟨x,ms,ds,vm,vd,cvm,cvd,fd,rfl,hm,hd,rd,hwt,D2,b2⟩;have S2:Hid (D8 w w2 w.heap.size wq.heap.size w2.heap.size W.heap.size a lb cb zs #[.int .i64 0,.int .i64 0,.int .i64 0,.slice none 0 0,.int .i64 0,.int .i64 0,.int .i64 0,.int .i64 0,.int .i64 0,.slice none 0 0,.int .i64 0,.bool false,.bool false] x ms ds vm vd cvm cvd fd):=⟨D2,B1.trans (b2.mono (by omega)),X1.below b2 zA,hm,hd,fun b hb=>⟨rd b hb,hd.lt b hb⟩,rfl,zA,zc,b2.size,Nat.le_refl _,AH.out,hwt⟩;clear D1 D2 B1 X1 hm hd rd hwt b2 AH;unfold aC;go_wp2_with fail
 refine (iL S2.out.1).mono ?_
 rintro e w3 ⟨m,rfl,D3,b3⟩;have S3:=aa (S2.out.draw D3 b3);clear S2 D3 b3;have HO:=aa S3.out.out;obtain ⟨_,_,RX,_⟩:=S3.out;unfold aC at HO;simp only [bM] at HO
 obtain ⟨r0,r1,r2,r3,r4,r5,r6,r7,r8,r9,r10,r11,r12⟩:=RX.cells13;have fzr:=RX.frozen;clear RX S3;go_wp2
 refine bodyPost_ret (by simp [results,Tryz.results23,go_sem,r0,r1,r2,r3,r4,r5,r6,r7,r8,r9,r10,r11,r12];rfl) rfl ?_
 obtain ⟨v,hv,hd⟩:=HO.out;cases hv;exact ⟨_,m,rfl,hd⟩
theorem kW (w:World) (a:Option Addr) (lb cb:Nat) (zs:List Int) (hz:zs.length=lb) (hr:aF .u8 w a zs) (hby:∀n∈zs,0<=n/\n<=255) (hlb:lb<=2097152):
 Calls Tryz.prog 22 #[.slice a lb cb] w fun e w'=>DrwII w e w':=by
 have hA:=ah w (.cells #[.int .i64 0,.int .i64 0,.int .i64 0,.slice none 0 0,.int .i64 0,.int .i64 0,.int .i64 0,.int .i64 0,.int .i64 0,.slice none 0 0,.int .i64 0,.bool false,.bool false] 29);have X:=Box.new w 29 #[.int .i64 0,.int .i64 0,.int .i64 0,.slice none 0 0,.int .i64 0,.int .i64 0,.int .i64 0,.int .i64 0,.int .i64 0,.slice none 0 0,.int .i64 0,.bool false,.bool false];have zA:=X.lt;have AH:=aa (hr.ahead hz);go_enter Tryz.func22,Tryz.ntmps22
 go_wp2_with fail
 generalize w.alloc (.cells #[.int .i64 0,.int .i64 0,.int .i64 0,.slice none 0 0,.int .i64 0,.int .i64 0,.int .i64 0,.int .i64 0,.int .i64 0,.slice none 0 0,.int .i64 0,.bool false,.bool false] 29)=W at hA X zA ⊢;refine (jV _ _ _ _ zs hz (hr.below hA) hlb).mono ?_
 rintro e w1 ⟨rfl,hc1,hb1⟩;have D1:aN w1 W.heap.size a lb cb zs:=⟨hc1,hz,(hr.below hA).below hb1,hby,hlb,(hr.below hA).ahead hz⟩;have B1:=Below.andThen hA hb1;have X1:=X.below hb1 zA;have zc:=D1.lt;clear hc1 hA X hb1;go_wp2_with fail
 refine (jj _ _ _ _ 8 hlb (by omega)).mono ?_
 rintro e wq ⟨n,rfl,n0,n1,hq⟩;subst hq;go_wp2_with fail
 refine (ka D1 n n0 (by omega)).mono ?_
 rintro e w2 ⟨x,ms,ds,vm,vd,cvm,cvd,fd,rfl,hm,hd,rd,hwt,D2,b2⟩;have S2:Hid (D8 w w2 w.heap.size wq.heap.size w2.heap.size W.heap.size a lb cb zs #[.int .i64 0,.int .i64 0,.int .i64 0,.slice none 0 0,.int .i64 0,.int .i64 0,.int .i64 0,.int .i64 0,.int .i64 0,.slice none 0 0,.int .i64 0,.bool false,.bool false] x ms ds vm vd cvm cvd fd):=⟨D2,B1.trans (b2.mono (by omega)),X1.below b2 zA,hm,hd,fun b hb=>⟨rd b hb,hd.lt b hb⟩,rfl,zA,zc,b2.size,Nat.le_refl _,AH.out,hwt⟩;clear D1 D2 B1 X1 hm hd rd hwt b2 AH;unfold aC;go_wp2_with fail
 refine (iL S2.out.1).mono ?_
 rintro e w3 ⟨m,rfl,D3,b3⟩;have S3:=aa (S2.out.draw D3 b3);clear S2 D3 b3;have S4:=aa (S3.out.below (ah w3 (.cells #[.int .i64 0,.int .i64 1,.int .i64 2,.int .i64 (-1),.int .i64 8] 3)));have hgw:=S3.out.1.lt;have hR4:aF .i64 (w3.alloc (.cells #[.int .i64 0,.int .i64 1,.int .i64 2,.int .i64 (-1),.int .i64 8] 3)) (some ⟨w3.heap.size,0,none⟩) [0,1,2,-1,8]:=aF.new _ _ _ _ _ rfl;clear S3;go_wp2_with fail
 generalize w3.alloc (.cells #[.int .i64 0,.int .i64 1,.int .i64 2,.int .i64 (-1),.int .i64 8] 3)=w4 at S4 hR4 ⊢;refine (jW S4.out.1 _ 5 _ [0,1,2,-1,8] rfl hR4 (fun q hq=>by simp at hq;subst hq;exact hgw) (by omega) (by omega)).mono ?_
 rintro e w5 ⟨s,rfl,_,D5,b5⟩;have S5:=aa (S4.out.draw D5 b5);clear S4 D5 b5 hR4 hgw;have HO:=aa S5.out.out;obtain ⟨_,_,RX,_⟩:=S5.out;unfold aC at HO;simp only [bM] at HO
 obtain ⟨r0,r1,r2,r3,r4,r5,r6,r7,r8,r9,r10,r11,r12⟩:=RX.cells13;have fzr:=RX.frozen;clear RX S5;go_wp2
 refine bodyPost_ret (by simp [results,Tryz.results22,go_sem,r0,r1,r2,r3,r4,r5,r6,r7,r8,r9,r10,r11,r12];rfl) rfl ?_
 obtain ⟨v,hv,hd⟩:=HO.out;cases hv;exact ⟨_,m,s,rfl,hd⟩
theorem kp (a0:Option Addr) (len0 cap0:Nat) (z0:List Int) (w:World) (w0:oV .u8 w a0 len0 cap0 z0):
 Calls Tryz.prog 4 #[.slice a0 len0 cap0] w fun e w'=>e=.returned (.bool true)/\Below w.heap.size w w':=by
 obtain ⟨hr,hl,hwf,hml⟩:=w0.reads;generalize z0.take len0=zs at hr hl hwf;unfold maxLen at hml;have hby:=pP hwf;clear w0 hwf;by_cases hbig:len0<=1048576
 rotate_left
 . go_enter Tryz.func4,Tryz.ntmps4
   go_wp2_with fail
   refine (rK _ _ _ _).mono ?_
   rintro e wb ⟨rfl,rfl⟩;go_wp2
   go_ret
   exact ⟨rfl,Below.refl _ _⟩
 have hlb:len0<=2097152:=by omega
 have HBY:=aa hby;clear hby;go_enter Tryz.func4,Tryz.ntmps4
 go_wp2_with fail
 refine (rK _ _ _ _).mono ?_
 rintro e wb ⟨rfl,rfl⟩;go_wp2_with fail
 refine (kc _ _ _ _ zs hl hr HBY.out hlb).mono ?_
 rintro e w1 ⟨v,m1,rfl,⟨x1,ms1,ds1,vm1,vd1,cvm1,cvd1,fd1,rfl,hm,hd,_,hwt1,hb⟩⟩;have B_1:=aa (hb);have HR_1:=aa (hr.below hb);have M1_1:=aa (hm.rd);have D1_1:=aa (hd.rd);clear hm hd hb;have hw1:aM ms1 ds1<=1048576:=by omega
 clear hwt1;unfold aC;have ba:Below w1.heap.size w1 (w1.alloc (.cells #[.int .i64 x1.id,.int .i64 x1.n,.int .i64 x1.s,.slice vm1 ms1.length cvm1,.int .i64 x1.lost,.int .i64 x1.uG,.int .i64 x1.seq,.int .i64 x1.tail,.int .i64 x1.gen,.slice vd1 ds1.length cvd1,.int .i64 x1.uI,.bool x1.down,.bool x1.uH] 29)):=(Below.refl _ _).alloc (Nat.le_refl _) _;have B_2:=aa (Below.andThen B_1.out ba);have HR_2:=aa (HR_1.out.below ba);have M1_2:=aa (M1_1.out.below ba);have D1_2:=aa (D1_1.out.below ba);clear B_1 HR_1 M1_1 D1_1;clear ba;have T1_2:=aa (Box.new w1 29 #[.int .i64 x1.id,.int .i64 x1.n,.int .i64 x1.s,.slice vm1 ms1.length cvm1,.int .i64 x1.lost,.int .i64 x1.uG,.int .i64 x1.seq,.int .i64 x1.tail,.int .i64 x1.gen,.slice vd1 ds1.length cvd1,.int .i64 x1.uI,.bool x1.down,.bool x1.uH]);go_upto_region 4 with fail
 generalize w1.alloc (.cells #[.int .i64 x1.id,.int .i64 x1.n,.int .i64 x1.s,.slice vm1 ms1.length cvm1,.int .i64 x1.lost,.int .i64 x1.uG,.int .i64 x1.seq,.int .i64 x1.tail,.int .i64 x1.gen,.slice vd1 ds1.length cvd1,.int .i64 x1.uI,.bool x1.down,.bool x1.uH] 29)=w2 at B_2 HR_2 M1_2 D1_2 T1_2 ⊢;obtain ⟨b1,hb1⟩:∃b,w1.heap.size=b:=⟨_,rfl⟩;rw [hb1] at T1_2 ⊢;clear hb1;go_wp2_with fail
 refine (kW _ _ _ _ zs hl HR_2.out HBY.out hlb).mono ?_
 rintro e w3 ⟨v,m2,s2,rfl,⟨x2,ms2,ds2,vm2,vd2,cvm2,cvd2,fd2,rfl,hm,hd,_,hwt2,hb⟩⟩;have B_3:=aa (Below.andThen B_2.out hb);have HR_3:=aa (HR_2.out.below hb);have M1_3:=aa (M1_2.out.below hb);have D1_3:=aa (D1_2.out.below hb);have T1_3:=aa (T1_2.out.below hb T1_2.out.lt);clear B_2 HR_2 M1_2 D1_2 T1_2;have M2_3:=aa (hm.rd);have D2_3:=aa (hd.rd);clear hm hd hb;have hw2:aM ms2 ds2<=1048576:=by omega
 clear hwt2;unfold aC;have ba:Below w3.heap.size w3 (w3.alloc (.cells #[.int .i64 x2.id,.int .i64 x2.n,.int .i64 x2.s,.slice vm2 ms2.length cvm2,.int .i64 x2.lost,.int .i64 x2.uG,.int .i64 x2.seq,.int .i64 x2.tail,.int .i64 x2.gen,.slice vd2 ds2.length cvd2,.int .i64 x2.uI,.bool x2.down,.bool x2.uH] 29)):=(Below.refl _ _).alloc (Nat.le_refl _) _;have B_4:=aa (Below.andThen B_3.out ba);have HR_4:=aa (HR_3.out.below ba);have M1_4:=aa (M1_3.out.below ba);have D1_4:=aa (D1_3.out.below ba);have T1_4:=aa (T1_3.out.below ba T1_3.out.lt);have M2_4:=aa (M2_3.out.below ba);have D2_4:=aa (D2_3.out.below ba);clear B_3 HR_3 M1_3 D1_3 T1_3 M2_3 D2_3;clear ba;have T2_4:=aa (Box.new w3 29 #[.int .i64 x2.id,.int .i64 x2.n,.int .i64 x2.s,.slice vm2 ms2.length cvm2,.int .i64 x2.lost,.int .i64 x2.uG,.int .i64 x2.seq,.int .i64 x2.tail,.int .i64 x2.gen,.slice vd2 ds2.length cvd2,.int .i64 x2.uI,.bool x2.down,.bool x2.uH]);go_upto_region 5 with fail
 generalize w3.alloc (.cells #[.int .i64 x2.id,.int .i64 x2.n,.int .i64 x2.s,.slice vm2 ms2.length cvm2,.int .i64 x2.lost,.int .i64 x2.uG,.int .i64 x2.seq,.int .i64 x2.tail,.int .i64 x2.gen,.slice vd2 ds2.length cvd2,.int .i64 x2.uI,.bool x2.down,.bool x2.uH] 29)=w4 at B_4 HR_4 M1_4 D1_4 T1_4 M2_4 D2_4 T2_4 ⊢;obtain ⟨b2,hb2⟩:∃b,w3.heap.size=b:=⟨_,rfl⟩;rw [hb2] at T2_4 ⊢;clear hb2;go_wp2_with fail
 refine (kV _ _ _ _ zs hl HR_4.out HBY.out hlb).mono ?_
 rintro e w5 ⟨v,m3,rfl,⟨x3,ms3,ds3,vm3,vd3,cvm3,cvd3,fd3,rfl,hm,hd,_,hwt3,hb⟩⟩;have B_5:=aa (Below.andThen B_4.out hb);have HR_5:=aa (HR_4.out.below hb);have M1_5:=aa (M1_4.out.below hb);have D1_5:=aa (D1_4.out.below hb);have T1_5:=aa (T1_4.out.below hb T1_4.out.lt);have M2_5:=aa (M2_4.out.below hb);have D2_5:=aa (D2_4.out.below hb);have T2_5:=aa (T2_4.out.below hb T2_4.out.lt);clear B_4 HR_4 M1_4 D1_4 T1_4 M2_4 D2_4 T2_4;have M3_5:=aa (hm.rd);have D3_5:=aa (hd.rd);clear hm hd hb;have hw3:aM ms3 ds3<=1048576:=by omega
 clear hwt3;unfold aC;have ba:Below w5.heap.size w5 (w5.alloc (.cells #[.int .i64 x3.id,.int .i64 x3.n,.int .i64 x3.s,.slice vm3 ms3.length cvm3,.int .i64 x3.lost,.int .i64 x3.uG,.int .i64 x3.seq,.int .i64 x3.tail,.int .i64 x3.gen,.slice vd3 ds3.length cvd3,.int .i64 x3.uI,.bool x3.down,.bool x3.uH] 29)):=(Below.refl _ _).alloc (Nat.le_refl _) _;have B_6:=aa (Below.andThen B_5.out ba);have HR_6:=aa (HR_5.out.below ba);have M1_6:=aa (M1_5.out.below ba);have D1_6:=aa (D1_5.out.below ba);have T1_6:=aa (T1_5.out.below ba T1_5.out.lt);have M2_6:=aa (M2_5.out.below ba);have D2_6:=aa (D2_5.out.below ba);have T2_6:=aa (T2_5.out.below ba T2_5.out.lt);have M3_6:=aa (M3_5.out.below ba);have D3_6:=aa (D3_5.out.below ba);clear B_5 HR_5 M1_5 D1_5 T1_5 M2_5 D2_5 T2_5 M3_5 D3_5;clear ba;have T3_6:=aa (Box.new w5 29 #[.int .i64 x3.id,.int .i64 x3.n,.int .i64 x3.s,.slice vm3 ms3.length cvm3,.int .i64 x3.lost,.int .i64 x3.uG,.int .i64 x3.seq,.int .i64 x3.tail,.int .i64 x3.gen,.slice vd3 ds3.length cvd3,.int .i64 x3.uI,.bool x3.down,.bool x3.uH]);go_upto_region 6 with fail
 generalize w5.alloc (.cells #[.int .i64 x3.id,.int .i64 x3.n,.int .i64 x3.s,.slice vm3 ms3.length cvm3,.int .i64 x3.lost,.int .i64 x3.uG,.int .i64 x3.seq,.int .i64 x3.tail,.int .i64 x3.gen,.slice vd3 ds3.length cvd3,.int .i64 x3.uI,.bool x3.down,.bool x3.uH] 29)=w6 at B_6 HR_6 M1_6 D1_6 T1_6 M2_6 D2_6 T2_6 M3_6 D3_6 T3_6 ⊢;obtain ⟨b3,hb3⟩:∃b,w5.heap.size=b:=⟨_,rfl⟩;rw [hb3] at T3_6 ⊢;clear hb3;have hwq0:=tT (x:=x1) (m:=m1) hw1;obtain ⟨y1,ns1,hq0⟩:∃(y:al) (ns:List ai),fU x1 ms1 ds1 m1=(y,ns):=⟨_,_,rfl⟩;have HQ1:=aa hq0;have hwq1:aM ns1 ds1<=2097152:=by rw [hq0] at hwq0;exact hwq0
 have hw1b:aM ms1 ds1<=2097152:=by omega
 clear hq0 hwq0 hw1;have hwq0:=sI (x:=x2) (m:=m2) (s:=s2) hw2;obtain ⟨y2,ns2,hq0⟩:∃(y:al) (ns:List ai),ey x2 ms2 ds2 m2 s2=(y,ns):=⟨_,_,rfl⟩;have HQ2:=aa hq0;have hwq2:aM ns2 ds2<=2097152:=by rw [hq0] at hwq0;exact hwq0
 have hw2b:aM ms2 ds2<=2097152:=by omega
 clear hq0 hwq0 hw2;have hw3b:aM ms3 ds3<=2097152:=by omega
 clear hw3;obtain ⟨cl,hcl⟩:∃cl,dE x3 ms3 ds3 m3=cl:=⟨_,rfl⟩;have HCL:=aa hcl;clear hcl;have hclb:(cl==cl)=true:=by cases cl<;>rfl
 go_wp2_with fail
 refine wp_region_held_drew (S:=fun w'=>(w'.cell? ⟨b1,0,none⟩=some (.int .i64 x1.id)/\w'.cell? ⟨b1,1,none⟩=some (.int .i64 x1.n)/\w'.cell? ⟨b1,2,none⟩=some (.int .i64 x1.s)/\w'.cell? ⟨b1,3,none⟩=some (.slice vm1 ms1.length cvm1)/\w'.cell? ⟨b1,4,none⟩=some (.int .i64 x1.lost)/\w'.cell? ⟨b1,5,none⟩=some (.int .i64 x1.uG)/\w'.cell? ⟨b1,6,none⟩=some (.int .i64 x1.seq)/\w'.cell? ⟨b1,7,none⟩=some (.int .i64 x1.tail)/\w'.cell? ⟨b1,8,none⟩=some (.int .i64 x1.gen)/\w'.cell? ⟨b1,9,none⟩=some (.slice vd1 ds1.length cvd1)/\w'.cell? ⟨b1,10,none⟩=some (.int .i64 x1.uI)/\w'.cell? ⟨b1,11,none⟩=some (.bool x1.down)/\w'.cell? ⟨b1,12,none⟩=some (.bool x1.uH))/\(w'.cell? ⟨b2,0,none⟩=some (.int .i64 x2.id)/\w'.cell? ⟨b2,1,none⟩=some (.int .i64 x2.n)/\w'.cell? ⟨b2,2,none⟩=some (.int .i64 x2.s)/\w'.cell? ⟨b2,3,none⟩=some (.slice vm2 ms2.length cvm2)/\w'.cell? ⟨b2,4,none⟩=some (.int .i64 x2.lost)/\w'.cell? ⟨b2,5,none⟩=some (.int .i64 x2.uG)/\w'.cell? ⟨b2,6,none⟩=some (.int .i64 x2.seq)/\w'.cell? ⟨b2,7,none⟩=some (.int .i64 x2.tail)/\w'.cell? ⟨b2,8,none⟩=some (.int .i64 x2.gen)/\w'.cell? ⟨b2,9,none⟩=some (.slice vd2 ds2.length cvd2)/\w'.cell? ⟨b2,10,none⟩=some (.int .i64 x2.uI)/\w'.cell? ⟨b2,11,none⟩=some (.bool x2.down)/\w'.cell? ⟨b2,12,none⟩=some (.bool x2.uH))/\(w'.cell? ⟨b3,0,none⟩=some (.int .i64 x3.id)/\w'.cell? ⟨b3,1,none⟩=some (.int .i64 x3.n)/\w'.cell? ⟨b3,2,none⟩=some (.int .i64 x3.s)/\w'.cell? ⟨b3,3,none⟩=some (.slice vm3 ms3.length cvm3)/\w'.cell? ⟨b3,4,none⟩=some (.int .i64 x3.lost)/\w'.cell? ⟨b3,5,none⟩=some (.int .i64 x3.uG)/\w'.cell? ⟨b3,6,none⟩=some (.int .i64 x3.seq)/\w'.cell? ⟨b3,7,none⟩=some (.int .i64 x3.tail)/\w'.cell? ⟨b3,8,none⟩=some (.int .i64 x3.gen)/\w'.cell? ⟨b3,9,none⟩=some (.slice vd3 ds3.length cvd3)/\w'.cell? ⟨b3,10,none⟩=some (.int .i64 x3.uI)/\w'.cell? ⟨b3,11,none⟩=some (.bool x3.down)/\w'.cell? ⟨b3,12,none⟩=some (.bool x3.uH))) (by kernel_rfl) ?_ (fun uF=>?_)
 . exact ⟨T1_6.out.cells13,T2_6.out.cells13,T3_6.out.cells13⟩
 clear uF;have bd:Below w6.heap.size w6 w6.drew:=(Below.refl _ _).drew;have B_7:=aa (Below.andThen B_6.out bd);have HR_7:=aa (HR_6.out.below bd);have M1_7:=aa (M1_6.out.below bd);have D1_7:=aa (D1_6.out.below bd);have T1_7:=aa (T1_6.out.below bd T1_6.out.lt);have M2_7:=aa (M2_6.out.below bd);have D2_7:=aa (D2_6.out.below bd);have T2_7:=aa (T2_6.out.below bd T2_6.out.lt);have M3_7:=aa (M3_6.out.below bd);have D3_7:=aa (D3_6.out.below bd);have T3_7:=aa (T3_6.out.below bd T3_6.out.lt);clear B_6 HR_6 M1_6 D1_6 T1_6 M2_6 D2_6 T2_6 M3_6 D3_6 T3_6;clear bd;generalize w6.drew=w7 at B_7 HR_7 M1_7 D1_7 T1_7 M2_7 D2_7 T2_7 M3_7 D3_7 T3_7 ⊢;refine ab 0 (⟨T1_7.out.cells13,T2_7.out.cells13,T3_7.out.cells13⟩) ?_
 refine ab 1 (⟨T1_7.out.cells13,T2_7.out.cells13,T3_7.out.cells13⟩) ?_
 refine ab 3 (⟨T1_7.out.cells13,T2_7.out.cells13,T3_7.out.cells13⟩) ?_
 refine ab 4 (⟨T1_7.out.cells13,T2_7.out.cells13,T3_7.out.cells13⟩) ?_
 refine au (i:=2) (by kernel_rfl) rfl (by kernel_rfl) (fun K hK=>?_)
 go_simp
 refine (kg _ 142 78 61 x1 _ _ _ _ _ _ ms1 ds1 m1 M1_7.out D1_7.out hw1b).mono ?_
 rintro e w8 ho;rw [HQ1.out] at ho;obtain ⟨a8,d8,c8,f8,rfl,oi,hb⟩:=ho;dsimp only at oi
 unfold aC;have B_8:=aa (Below.andThen B_7.out hb);have HR_8:=aa (HR_7.out.below hb);have M1_8:=aa (M1_7.out.below hb);have D1_8:=aa (D1_7.out.below hb);have T1_8:=aa (T1_7.out.below hb T1_7.out.lt);have M2_8:=aa (M2_7.out.below hb);have D2_8:=aa (D2_7.out.below hb);have T2_8:=aa (T2_7.out.below hb T2_7.out.lt);have M3_8:=aa (M3_7.out.below hb);have D3_8:=aa (D3_7.out.below hb);have T3_8:=aa (T3_7.out.below hb T3_7.out.lt);clear B_7 HR_7 M1_7 D1_7 T1_7 M2_7 D2_7 T2_7 M3_7 D3_7 T3_7;have P1M_8:=aa (oi.rdm);have P1D_8:=aa (oi.rdd);clear oi hb;go_wp2_with fail
 refine hK.out _ _ ?_ (fun uF=>?_)
 . exact ⟨T1_8.out.cells13,T2_8.out.cells13,T3_8.out.cells13⟩
 clear hK K uF;refine au (i:=5) (by kernel_rfl) rfl (by kernel_rfl) (fun K hK=>?_)
 go_simp
 refine (kh _ 142 78 61 x1 _ _ _ _ _ _ ms1 ds1 m1 M1_8.out D1_8.out hw1b).mono ?_
 rintro e w9 ho;rw [HQ1.out] at ho;obtain ⟨a9,d9,c9,f9,rfl,oi,hb⟩:=ho;dsimp only at oi
 unfold aC;have B_9:=aa (Below.andThen B_8.out hb);have HR_9:=aa (HR_8.out.below hb);have M1_9:=aa (M1_8.out.below hb);have D1_9:=aa (D1_8.out.below hb);have T1_9:=aa (T1_8.out.below hb T1_8.out.lt);have M2_9:=aa (M2_8.out.below hb);have D2_9:=aa (D2_8.out.below hb);have T2_9:=aa (T2_8.out.below hb T2_8.out.lt);have M3_9:=aa (M3_8.out.below hb);have D3_9:=aa (D3_8.out.below hb);have T3_9:=aa (T3_8.out.below hb T3_8.out.lt);have P1M_9:=aa (P1M_8.out.below hb);have P1D_9:=aa (P1D_8.out.below hb);clear B_8 HR_8 M1_8 D1_8 T1_8 M2_8 D2_8 T2_8 M3_8 D3_8 T3_8 P1M_8 P1D_8;have S1M_9:=aa (oi.rdm);have S1D_9:=aa (oi.rdd);clear oi hb;go_wp2_with fail
 refine hK.out _ _ ?_ (fun uF=>?_)
 . exact ⟨T1_9.out.cells13,T2_9.out.cells13,T3_9.out.cells13⟩
 clear hK K uF;refine au (i:=6) (by kernel_rfl) rfl (by kernel_rfl) (fun K hK=>?_)
 go_simp
 refine (jD _ 142 142 78 78 61 61 y1 _ _ _ _ _ _ _ _ _ _ _ _ ns1 ds1 P1M_9.out P1D_9.out S1M_9.out S1D_9.out hwq1).mono ?_
 rintro e w10 ⟨rfl,hb⟩;have B_10:=aa (Below.andThen B_9.out hb);have HR_10:=aa (HR_9.out.below hb);have M1_10:=aa (M1_9.out.below hb);have D1_10:=aa (D1_9.out.below hb);have T1_10:=aa (T1_9.out.below hb T1_9.out.lt);have M2_10:=aa (M2_9.out.below hb);have D2_10:=aa (D2_9.out.below hb);have T2_10:=aa (T2_9.out.below hb T2_9.out.lt);have M3_10:=aa (M3_9.out.below hb);have D3_10:=aa (D3_9.out.below hb);have T3_10:=aa (T3_9.out.below hb T3_9.out.lt);have P1M_10:=aa (P1M_9.out.below hb);have P1D_10:=aa (P1D_9.out.below hb);have S1M_10:=aa (S1M_9.out.below hb);have S1D_10:=aa (S1D_9.out.below hb);clear B_9 HR_9 M1_9 D1_9 T1_9 M2_9 D2_9 T2_9 M3_9 D3_9 T3_9 P1M_9 P1D_9 S1M_9 S1D_9;clear hb;clear P1M_10 P1D_10 S1M_10 S1D_10;go_wp2_with fail
 refine hK.out _ _ ?_ (fun uF=>?_)
 . exact ⟨T1_10.out.cells13,T2_10.out.cells13,T3_10.out.cells13⟩
 clear hK K uF;refine ab 7 (⟨T1_10.out.cells13,T2_10.out.cells13,T3_10.out.cells13⟩) ?_
 refine ab 8 (⟨T1_10.out.cells13,T2_10.out.cells13,T3_10.out.cells13⟩) ?_
 refine ab 9 (⟨T1_10.out.cells13,T2_10.out.cells13,T3_10.out.cells13⟩) ?_
 refine ab 10 (⟨T1_10.out.cells13,T2_10.out.cells13,T3_10.out.cells13⟩) ?_
 refine ab 12 (⟨T1_10.out.cells13,T2_10.out.cells13,T3_10.out.cells13⟩) ?_
 refine ab 13 (⟨T1_10.out.cells13,T2_10.out.cells13,T3_10.out.cells13⟩) ?_
 refine ab 14 (⟨T1_10.out.cells13,T2_10.out.cells13,T3_10.out.cells13⟩) ?_
 refine au (i:=11) (by kernel_rfl) rfl (by kernel_rfl) (fun K hK=>?_)
 go_simp
 refine (kY _ 142 78 61 x2 _ _ _ _ _ _ ms2 ds2 m2 s2 M2_10.out D2_10.out hw2b).mono ?_
 rintro e w11 ho;rw [HQ2.out] at ho;obtain ⟨a11,d11,c11,f11,rfl,oi,hb⟩:=ho;dsimp only at oi
 unfold aC;have B_11:=aa (Below.andThen B_10.out hb);have HR_11:=aa (HR_10.out.below hb);have M1_11:=aa (M1_10.out.below hb);have D1_11:=aa (D1_10.out.below hb);have T1_11:=aa (T1_10.out.below hb T1_10.out.lt);have M2_11:=aa (M2_10.out.below hb);have D2_11:=aa (D2_10.out.below hb);have T2_11:=aa (T2_10.out.below hb T2_10.out.lt);have M3_11:=aa (M3_10.out.below hb);have D3_11:=aa (D3_10.out.below hb);have T3_11:=aa (T3_10.out.below hb T3_10.out.lt);clear B_10 HR_10 M1_10 D1_10 T1_10 M2_10 D2_10 T2_10 M3_10 D3_10 T3_10;have P2M_11:=aa (oi.rdm);have P2D_11:=aa (oi.rdd);clear oi hb;go_wp2_with fail
 refine hK.out _ _ ?_ (fun uF=>?_)
 . exact ⟨T1_11.out.cells13,T2_11.out.cells13,T3_11.out.cells13⟩
 clear hK K uF;refine au (i:=15) (by kernel_rfl) rfl (by kernel_rfl) (fun K hK=>?_)
 go_simp
 refine (kZ _ 142 78 61 x2 _ _ _ _ _ _ ms2 ds2 m2 s2 M2_11.out D2_11.out hw2b).mono ?_
 rintro e w12 ho;rw [HQ2.out] at ho;obtain ⟨a12,d12,c12,f12,rfl,oi,hb⟩:=ho;dsimp only at oi
 unfold aC;have B_12:=aa (Below.andThen B_11.out hb);have HR_12:=aa (HR_11.out.below hb);have M1_12:=aa (M1_11.out.below hb);have D1_12:=aa (D1_11.out.below hb);have T1_12:=aa (T1_11.out.below hb T1_11.out.lt);have M2_12:=aa (M2_11.out.below hb);have D2_12:=aa (D2_11.out.below hb);have T2_12:=aa (T2_11.out.below hb T2_11.out.lt);have M3_12:=aa (M3_11.out.below hb);have D3_12:=aa (D3_11.out.below hb);have T3_12:=aa (T3_11.out.below hb T3_11.out.lt);have P2M_12:=aa (P2M_11.out.below hb);have P2D_12:=aa (P2D_11.out.below hb);clear B_11 HR_11 M1_11 D1_11 T1_11 M2_11 D2_11 T2_11 M3_11 D3_11 T3_11 P2M_11 P2D_11;have S2M_12:=aa (oi.rdm);have S2D_12:=aa (oi.rdd);clear oi hb;go_wp2_with fail
 refine hK.out _ _ ?_ (fun uF=>?_)
 . exact ⟨T1_12.out.cells13,T2_12.out.cells13,T3_12.out.cells13⟩
 clear hK K uF;refine au (i:=16) (by kernel_rfl) rfl (by kernel_rfl) (fun K hK=>?_)
 go_simp
 refine (jD _ 142 142 78 78 61 61 y2 _ _ _ _ _ _ _ _ _ _ _ _ ns2 ds2 P2M_12.out P2D_12.out S2M_12.out S2D_12.out hwq2).mono ?_
 rintro e w13 ⟨rfl,hb⟩;have B_13:=aa (Below.andThen B_12.out hb);have HR_13:=aa (HR_12.out.below hb);have M1_13:=aa (M1_12.out.below hb);have D1_13:=aa (D1_12.out.below hb);have T1_13:=aa (T1_12.out.below hb T1_12.out.lt);have M2_13:=aa (M2_12.out.below hb);have D2_13:=aa (D2_12.out.below hb);have T2_13:=aa (T2_12.out.below hb T2_12.out.lt);have M3_13:=aa (M3_12.out.below hb);have D3_13:=aa (D3_12.out.below hb);have T3_13:=aa (T3_12.out.below hb T3_12.out.lt);have P2M_13:=aa (P2M_12.out.below hb);have P2D_13:=aa (P2D_12.out.below hb);have S2M_13:=aa (S2M_12.out.below hb);have S2D_13:=aa (S2D_12.out.below hb);clear B_12 HR_12 M1_12 D1_12 T1_12 M2_12 D2_12 T2_12 M3_12 D3_12 T3_12 P2M_12 P2D_12 S2M_12 S2D_12;clear hb;clear P2M_13 P2D_13 S2M_13 S2D_13;go_wp2_with fail
 refine hK.out _ _ ?_ (fun uF=>?_)
 . exact ⟨T1_13.out.cells13,T2_13.out.cells13,T3_13.out.cells13⟩
 clear hK K uF;refine ab 17 (⟨T1_13.out.cells13,T2_13.out.cells13,T3_13.out.cells13⟩) ?_
 refine ab 18 (⟨T1_13.out.cells13,T2_13.out.cells13,T3_13.out.cells13⟩) ?_
 refine ab 19 (⟨T1_13.out.cells13,T2_13.out.cells13,T3_13.out.cells13⟩) ?_
 refine ab 20 (⟨T1_13.out.cells13,T2_13.out.cells13,T3_13.out.cells13⟩) ?_
 refine ab 22 (⟨T1_13.out.cells13,T2_13.out.cells13,T3_13.out.cells13⟩) ?_
 refine ab 23 (⟨T1_13.out.cells13,T2_13.out.cells13,T3_13.out.cells13⟩) ?_
 refine au (i:=21) (by kernel_rfl) rfl (by kernel_rfl) (fun K hK=>?_)
 go_simp
 refine (le _ 142 78 61 x3 _ _ _ _ _ _ ms3 ds3 m3 M3_13.out D3_13.out hw3b).mono ?_
 rintro e w14 ⟨rfl,hb⟩;rw [HCL.out];have B_14:=aa (Below.andThen B_13.out hb);have HR_14:=aa (HR_13.out.below hb);have M1_14:=aa (M1_13.out.below hb);have D1_14:=aa (D1_13.out.below hb);have T1_14:=aa (T1_13.out.below hb T1_13.out.lt);have M2_14:=aa (M2_13.out.below hb);have D2_14:=aa (D2_13.out.below hb);have T2_14:=aa (T2_13.out.below hb T2_13.out.lt);have M3_14:=aa (M3_13.out.below hb);have D3_14:=aa (D3_13.out.below hb);have T3_14:=aa (T3_13.out.below hb T3_13.out.lt);clear B_13 HR_13 M1_13 D1_13 T1_13 M2_13 D2_13 T2_13 M3_13 D3_13 T3_13;clear hb;go_wp2_with fail
 refine hK.out _ _ ?_ (fun uF=>?_)
 . exact ⟨T1_14.out.cells13,T2_14.out.cells13,T3_14.out.cells13⟩
 clear hK K uF;refine au (i:=24) (by kernel_rfl) rfl (by kernel_rfl) (fun K hK=>?_)
 go_simp
 refine (lf _ 142 78 61 x3 _ _ _ _ _ _ ms3 ds3 m3 M3_14.out D3_14.out hw3b).mono ?_
 rintro e w15 ⟨rfl,hb⟩;rw [HCL.out];have B_15:=aa (Below.andThen B_14.out hb);have HR_15:=aa (HR_14.out.below hb);have M1_15:=aa (M1_14.out.below hb);have D1_15:=aa (D1_14.out.below hb);have T1_15:=aa (T1_14.out.below hb T1_14.out.lt);have M2_15:=aa (M2_14.out.below hb);have D2_15:=aa (D2_14.out.below hb);have T2_15:=aa (T2_14.out.below hb T2_14.out.lt);have M3_15:=aa (M3_14.out.below hb);have D3_15:=aa (D3_14.out.below hb);have T3_15:=aa (T3_14.out.below hb T3_14.out.lt);clear B_14 HR_14 M1_14 D1_14 T1_14 M2_14 D2_14 T2_14 M3_14 D3_14 T3_14;clear hb;go_wp2_with fail
 refine hK.out _ _ ?_ (fun uF=>?_)
 . exact ⟨T1_15.out.cells13,T2_15.out.cells13,T3_15.out.cells13⟩
 clear hK K uF;refine ab 25 (⟨T1_15.out.cells13,T2_15.out.cells13,T3_15.out.cells13⟩) ?_
 refine ab 26 (⟨T1_15.out.cells13,T2_15.out.cells13,T3_15.out.cells13⟩) ?_
 refine ab 27 (⟨T1_15.out.cells13,T2_15.out.cells13,T3_15.out.cells13⟩) ?_
 refine wpAnyH_done (by kernel_rfl) ?_ _
 go_wp2
 go_ret
 exact ⟨rfl,B_15.out⟩
end Go.Proofs.YtejokiafgbjdaaaGreat
