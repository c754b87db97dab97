/-
 The walks of the program's look whether an array is right: disk by disk, entry by entry, and as a whole. Condition: it weighs at most 2097152.
-/
import Derived.Test.YtgjomldcnjjpaaaGreatRowArrsSq1
import Derived.Test.YtgjomldcnjjpaaaGreatRowArrsSq20
import Derived.Test.YtgjomldcnjjpaaaGreatRowArrsSq6
import Derived.Test.YtgjomldcnjjpaaaGreatRowArrsSq3
import Derived.Test.YtgjomldcnjjpaaaGreatRowArrsSq11
import Derived.Test.YtgjomldcnjjpaaaGreatRowArrsSq4

set_option maxRecDepth 100000
set_option maxHeartbeats 8000000
set_option linter.unusedSimpArgs false

namespace Go.Proofs.YtgjomldcnjjpaaaGreat
open Go.RowKit

def iW (x:aq):Bool:=inB x.seq 0 60000&&(inB x.tail 0 60000&&inB (x.seq-x.tail) 0 4)
theorem tf {x:aq} (hg:bL x.n x.s=true):ii x.n x.s x.lost x.xW=dU x:=by
 obtain ⟨g1,g2,g3,g4⟩:=aB.1 hg;rw [Bool.eq_iff_iff,lm];unfold dU;simp only [Bool.and_eq_true,aG,Bool.or_eq_true,Bool.not_eq_true',decide_eq_false_iff_not,decide_eq_true_eq]
 omega
theorem uQ (x:aq):ez x=(inB x.gen 0 60000&&(inB x.xY (-1) 1000&&iW x)):=by
 rw [Bool.eq_iff_iff];unfold ez iW;simp only [Bool.and_eq_true,aG,decide_eq_true_eq]
 omega
theorem uR {x:aq} {ms:List ai} {ds:List (Int×List Int)} (hg:bL x.n x.s=true):bf x ms ds=(inB x.id 1 60000&&(ii x.n x.s x.lost x.xW&&(inB x.gen 0 60000&&(inB x.xY (-1) 1000&&(cI x ms&&(iW x&&ey x ds)))))):=by
 unfold bf;rw [hg,tf hg,uQ];cases inB x.id 1 60000<;>cases dU x<;>cases inB x.gen 0 60000<;>cases inB x.xY (-1) 1000<;>cases cI x ms<;>cases iW x<;>cases ey x ds<;>rfl
theorem iL {x:aq} {y:Int} (hg:bL x.n x.s=true):bJ x.n x.s y=inB y 0 (x.s-1):=by unfold bJ;rw [hg];rfl
theorem rT {zs:List Int} (h:zs.length<=12):cR zs=dg zs:=by unfold cR;simp [h]
theorem xH {x:aq} {ds:List (Int×List Int)} {p:Nat} {y:Int} {zs:List Int} {q:Int×List Int} (hq:ds[p]?=some q) (h:y<=q.1):dI x ds (p+1) (y,zs)=false:=by
 have:ds.getD (p+1-1) (0,[])=q:=by rw [Nat.add_sub_cancel,List.getD_eq_getElem?_getD,hq];rfl
 unfold dI;rw [this];have h2:¬q.1<y:=by omega
 simp [h2]
theorem dw (w:World) (n s:Int) (hs:1<=s/\s<=8):Calls Tryz.prog 58 #[.agg #[.int .i64 n,.int .i64 s]] w fun e w'=>e=.returned (.int .i64 (6+s))/\Below w.heap.size w w':=by
 have hA:=af w (.cells #[.int .i64 n,.int .i64 s] 25);obtain ⟨k0,k1⟩:=(bK.new w 25 n s).cells;have hd:bE s=6+s:=by unfold bE;split<;>omega
 have HD:=aa hd;clear hd;go_enter Tryz.func58,Tryz.ntmps58
 go_wp2_with fail
 refine (dA _ _).mono ?_
 rintro e w1 ⟨rfl,h1⟩;subst h1;rw [HD.out];go_wp2
 go_ret
 exact ⟨rfl,hA⟩
theorem tg (w:World) (E F:TypeId) (x:aq) (am ad:Option Addr) (nm cm nd cd:Nat) (ms:List ai) (h0:(bI E F).Rd w [.slice am nm cm] ms) (hw:aQ ms<=2097152) (hg:bL x.n x.s=true):
 Calls Tryz.prog 30 #[.agg #[.int .i64 x.id,.int .i64 x.n,.int .i64 x.s,.slice am nm cm,.int .i64 x.lost,.int .i64 x.xW,.int .i64 x.seq,.int .i64 x.tail,.int .i64 x.gen,.slice ad nd cd,.int .i64 x.xY,.bool x.down,.bool x.xX]] w fun e w'=>e=.returned (.bool (cI x ms))/\Below w.heap.size w w':=by
 obtain ⟨hl,hc,hm⟩:=ag h0;obtain ⟨g1,g2,g3,g4⟩:=aB.1 hg;have hA:=af w (.cells #[.int .i64 x.id,.int .i64 x.n,.int .i64 x.s,.slice am nm cm,.int .i64 x.lost,.int .i64 x.xW,.int .i64 x.seq,.int .i64 x.tail,.int .i64 x.gen,.slice ad nd cd,.int .i64 x.xY,.bool x.down,.bool x.xX] 31);have X:=Box.new w 31 #[.int .i64 x.id,.int .i64 x.n,.int .i64 x.s,.slice am nm cm,.int .i64 x.lost,.int .i64 x.xW,.int .i64 x.seq,.int .i64 x.tail,.int .i64 x.gen,.slice ad nd cd,.int .i64 x.xY,.bool x.down,.bool x.xX];have zA:=X.lt;have hnm:nm<=2097152:=by unfold aQ at hw;omega
 have h1:=h0.below hA;obtain ⟨k0,k1,k2,k3,k4,k5,k6,k7,k8,k9,k10,k11,k12⟩:=X.cells13;by_cases hN:(nm:Int)=x.n
 . have hN1:((nm:Int)==x.n)=true:=by simpa using hN
   have hN2:((nm:Int) !=x.n)=false:=by simpa using hN
   have HN:=aa hN;clear hN;go_enter Tryz.func30,Tryz.ntmps30
   go_wp2
   generalize w.alloc (.cells #[.int .i64 x.id,.int .i64 x.n,.int .i64 x.s,.slice am nm cm,.int .i64 x.lost,.int .i64 x.xW,.int .i64 x.seq,.int .i64 x.tail,.int .i64 x.gen,.slice ad nd cd,.int .i64 x.xY,.bool x.down,.bool x.xX] 31)=W at hA X zA h1 k0 k1 k2 k3 k4 k5 k6 k7 k8 k9 k10 k11 k12 ⊢;clear k0 k1 k2 k3 k4 k5 k6 k7 k8 k9 k10 k11 k12;go_loopw [15] (fun i wr=>∃j:Nat,j<=nm/\i=.int .i64 j/\(∀(q:Nat) (m:ai),q<j->ms[q]?=some m->dH x q m=true)/\Below W.heap.size W wr) (fun i _=>nm-(intOf i).toNat)
   case atStart=>exact ⟨0,Nat.zero_le _,rfl,fun q m hq=>by omega,Below.refl _ _⟩
   obtain ⟨j,hj,rfl,hall,hb⟩:=hrel;have Xr:=X.below hb zA;by_cases hjn:j<nm
   . rcases eb rfl h1 with h0'|⟨b,off,rfl,hbl,hcs⟩
     . omega
     have hdj:ms[j]?=some (ms[j]'(by omega)):=List.getElem?_eq_getElem (by omega);generalize ms[j]'(by omega)=m at hdj;obtain ⟨v0,v1,v2,v3,hv0,hv1,hv2,hv3,hrv⟩:=hcs j m hdj;obtain ⟨a0,c0,a1,c1,a3,c3,ss,cs,f,bs,rfl,rfl,rfl,rfl,rfl,r0,r1,r3⟩:=fV hrv;have u0:=(hb.cell (p:=⟨b,off+j*4,none⟩) hbl).trans hv0;have u1:=(hb.cell (p:=⟨b,off+j*4+1,none⟩) hbl).trans hv1;have u2:=(hb.cell (p:=⟨b,off+j*4+2,none⟩) hbl).trans hv2;have u3:=(hb.cell (p:=⟨b,off+j*4+3,none⟩) hbl).trans hv3;have i1:(0:Int)<=(j:Int):=by omega
     have i2:(j:Int)<(nm:Int):=by omega
     have hwm:=Nat.le_trans (ei hdj) hw;have HDJ:=aa hdj;clear hcs hv0 hv1 hv2 hv3 hrv hdj;have b1:=af wr (.cells #[.slice a0 ss.length c0,.slice a1 cs.length c1,.bool f,.slice a3 bs.length c3] 55);have Y1:=Box.new wr 55 #[.slice a0 ss.length c0,.slice a1 cs.length c1,.bool f,.slice a3 bs.length c3];have X1:=Xr.below b1 Xr.lt;have R0:=(r0.below hb).below b1;have R1:=(r1.below hb).below b1;have R3:=(r3.below hb).below b1;have B1:=hb.trans (b1.mono hb.size);clear r0 r1 r3 b1;obtain ⟨y0,y1,y2,y3⟩:=Y1.cells4;obtain ⟨e0,e1,e2,e3,e4,e5,e6,e7,e8,e9,e10,e11,e12⟩:=X1.cells13;have zy:=Y1.lt;have zx:=X1.lt;clear e0 e3 e5 e6 e7 e8 e9 e10 e11;cases hM:bF ss cs bs
     . skip
       go_wp2_with fail
       generalize wr.alloc (.cells #[.slice a0 ss.length c0,.slice a1 cs.length c1,.bool f,.slice a3 bs.length c3] 55)=w1 at X1 Y1 R0 R1 R3 B1 y0 y1 y2 y3 e1 e2 e4 e12 zy zx ⊢;refine wp_region_held_drew (S:=fun w'=>w'.cell? ⟨wr.heap.size,0,none⟩=some (.slice a0 ss.length c0)/\w'.cell? ⟨wr.heap.size,1,none⟩=some (.slice a1 cs.length c1)/\w'.cell? ⟨wr.heap.size,2,none⟩=some (.bool f)/\w'.cell? ⟨wr.heap.size,3,none⟩=some (.slice a3 bs.length c3)/\w'.cell? ⟨w.heap.size,1,none⟩=some (.int .i64 x.n)/\w'.cell? ⟨w.heap.size,2,none⟩=some (.int .i64 x.s)) (by kernel_rfl) ?_ (fun xV=>?_)
       . exact ⟨y0,y1,y2,y3,e1,e2⟩
       refine ae 0 xV ?_
       refine aw (i:=1) (by kernel_rfl) rfl (by kernel_rfl) (fun K hK=>?_)
       go_simp
       refine (bG _ E _ _ _ _ _ _ _ _ _ ss cs f bs R0.drew R1.drew R3.drew hwm).mono ?_
       rintro e w2 ⟨rfl,b2⟩;rw [hM];have b2':Below w1.heap.size w1 w2:=(Below.refl w1.heap.size w1).drew.trans b2;clear b2;go_wp2_with fail
       clear xV;refine hK.out _ _ ?_ (fun xV=>?_)
       . exact ⟨(b2'.cell (p:=⟨wr.heap.size,0,none⟩) zy).trans y0,(b2'.cell (p:=⟨wr.heap.size,1,none⟩) zy).trans y1,(b2'.cell (p:=⟨wr.heap.size,2,none⟩) zy).trans y2,(b2'.cell (p:=⟨wr.heap.size,3,none⟩) zy).trans y3,(b2'.cell (p:=⟨w.heap.size,1,none⟩) zx).trans e1,(b2'.cell (p:=⟨w.heap.size,2,none⟩) zx).trans e2⟩
       clear hK K;refine ae 2 xV ?_
       refine ae 3 xV ?_
       refine au 4 xV ?_
       refine au 5 xV ?_
       refine au 6 xV ?_
       refine au 7 xV ?_
       refine au 8 xV ?_
       refine gp (i:=9) (by kernel_rfl) rfl (by kernel_rfl) xV ?_
       simp only [Act.put,List.setIfInBounds_toArray,List.set_cons_zero,List.set_cons_succ]
       refine au 10 xV ?_
       refine ae 11 xV ?_
       refine wpAnyH_done (by kernel_rfl) ?_ _
       clear xV;have HB:=aa (hA.trans ((B1.trans (b2'.mono B1.size)).mono hA.size));go_wp2
       go_ret
       exact ⟨ah (by rw [show cI x ms=false from (by unfold cI;rw [gK HDJ.out (by unfold dH;simp [hM])];rfl)]),HB.out⟩
     by_cases hS:(ss.length:Int)=6+x.s
     . have hS1:((ss.length:Int)==6+x.s)=true:=by simpa using hS
       have hS2:((ss.length:Int) !=6+x.s)=false:=by simpa using hS
       have HS:=aa hS;clear hS;cases f
       . skip
         go_wp2_with fail
         generalize wr.alloc (.cells #[.slice a0 ss.length c0,.slice a1 cs.length c1,.bool false,.slice a3 bs.length c3] 55)=w1 at X1 Y1 R0 R1 R3 B1 y0 y1 y2 y3 e1 e2 e4 e12 zy zx ⊢;refine wp_region_held_drew (S:=fun w'=>w'.cell? ⟨wr.heap.size,0,none⟩=some (.slice a0 ss.length c0)/\w'.cell? ⟨wr.heap.size,1,none⟩=some (.slice a1 cs.length c1)/\w'.cell? ⟨wr.heap.size,2,none⟩=some (.bool false)/\w'.cell? ⟨wr.heap.size,3,none⟩=some (.slice a3 bs.length c3)/\w'.cell? ⟨w.heap.size,1,none⟩=some (.int .i64 x.n)/\w'.cell? ⟨w.heap.size,2,none⟩=some (.int .i64 x.s)) (by kernel_rfl) ?_ (fun xV=>?_)
         . exact ⟨y0,y1,y2,y3,e1,e2⟩
         refine ae 0 xV ?_
         refine aw (i:=1) (by kernel_rfl) rfl (by kernel_rfl) (fun K hK=>?_)
         go_simp
         refine (bG _ E _ _ _ _ _ _ _ _ _ ss cs false bs R0.drew R1.drew R3.drew hwm).mono ?_
         rintro e w2 ⟨rfl,b2⟩;rw [hM];have b2':Below w1.heap.size w1 w2:=(Below.refl w1.heap.size w1).drew.trans b2;clear b2;go_wp2_with fail
         clear xV;refine hK.out _ _ ?_ (fun xV=>?_)
         . exact ⟨(b2'.cell (p:=⟨wr.heap.size,0,none⟩) zy).trans y0,(b2'.cell (p:=⟨wr.heap.size,1,none⟩) zy).trans y1,(b2'.cell (p:=⟨wr.heap.size,2,none⟩) zy).trans y2,(b2'.cell (p:=⟨wr.heap.size,3,none⟩) zy).trans y3,(b2'.cell (p:=⟨w.heap.size,1,none⟩) zx).trans e1,(b2'.cell (p:=⟨w.heap.size,2,none⟩) zx).trans e2⟩
         clear hK K;refine ae 2 xV ?_
         refine ae 3 xV ?_
         refine ae 4 xV ?_
         refine ae 5 xV ?_
         refine ae 6 xV ?_
         refine ae 7 xV ?_
         refine ae 8 xV ?_
         refine aw (i:=9) (by kernel_rfl) rfl (by kernel_rfl) (fun K hK=>?_)
         go_simp
         refine (dw _ x.n x.s ⟨g3,g4⟩).mono ?_
         rintro e w3 ⟨rfl,b3⟩;have b3':Below w1.heap.size w1 w3:=Below.andThen b2' b3;clear b3;go_wp2_with fail
         clear xV;refine hK.out _ _ ?_ (fun xV=>?_)
         . exact ⟨(b3'.cell (p:=⟨wr.heap.size,0,none⟩) zy).trans y0,(b3'.cell (p:=⟨wr.heap.size,1,none⟩) zy).trans y1,(b3'.cell (p:=⟨wr.heap.size,2,none⟩) zy).trans y2,(b3'.cell (p:=⟨wr.heap.size,3,none⟩) zy).trans y3,(b3'.cell (p:=⟨w.heap.size,1,none⟩) zx).trans e1,(b3'.cell (p:=⟨w.heap.size,2,none⟩) zx).trans e2⟩
         clear hK K;refine ae 10 xV ?_
         refine ae 11 xV ?_
         refine wpAnyH_done (by kernel_rfl) ?_ _
         clear xV;have n0:=(b3'.cell (p:=⟨w.heap.size,4,none⟩) zx).trans e4;have n1:=(b3'.cell (p:=⟨w.heap.size,12,none⟩) zx).trans e12;have n2:=(b3'.cell (p:=⟨wr.heap.size,2,none⟩) zy).trans y2;have HB:=aa (B1.trans (b3'.mono B1.size));have hat:dH x j (ss,cs,false,bs)=true:=(by unfold dH;simp [hM,HS.out]);go_wp2
         go_roundw
         case rel=>exact ⟨j+1,by omega,by go_num,fun q m hq hm'=>by
          rcases Nat.lt_or_ge q j with h|h
          . exact hall q m h hm'
          obtain rfl:q=j:=by omega
          rw [HDJ.out] at hm';cases hm';exact hat,HB.out⟩
         case measure=>simp [intOf];omega
       by_cases hL:(j:Int)=x.lost
       . have hL1:((j:Int)==x.lost)=true:=by simpa using hL
         have hL2:((j:Int) !=x.lost)=false:=by simpa using hL
         have HL:=aa hL;clear hL;go_wp2_with fail
         generalize wr.alloc (.cells #[.slice a0 ss.length c0,.slice a1 cs.length c1,.bool true,.slice a3 bs.length c3] 55)=w1 at X1 Y1 R0 R1 R3 B1 y0 y1 y2 y3 e1 e2 e4 e12 zy zx ⊢;refine wp_region_held_drew (S:=fun w'=>w'.cell? ⟨wr.heap.size,0,none⟩=some (.slice a0 ss.length c0)/\w'.cell? ⟨wr.heap.size,1,none⟩=some (.slice a1 cs.length c1)/\w'.cell? ⟨wr.heap.size,2,none⟩=some (.bool true)/\w'.cell? ⟨wr.heap.size,3,none⟩=some (.slice a3 bs.length c3)/\w'.cell? ⟨w.heap.size,1,none⟩=some (.int .i64 x.n)/\w'.cell? ⟨w.heap.size,2,none⟩=some (.int .i64 x.s)) (by kernel_rfl) ?_ (fun xV=>?_)
         . exact ⟨y0,y1,y2,y3,e1,e2⟩
         refine ae 0 xV ?_
         refine aw (i:=1) (by kernel_rfl) rfl (by kernel_rfl) (fun K hK=>?_)
         go_simp
         refine (bG _ E _ _ _ _ _ _ _ _ _ ss cs true bs R0.drew R1.drew R3.drew hwm).mono ?_
         rintro e w2 ⟨rfl,b2⟩;rw [hM];have b2':Below w1.heap.size w1 w2:=(Below.refl w1.heap.size w1).drew.trans b2;clear b2;go_wp2_with fail
         clear xV;refine hK.out _ _ ?_ (fun xV=>?_)
         . exact ⟨(b2'.cell (p:=⟨wr.heap.size,0,none⟩) zy).trans y0,(b2'.cell (p:=⟨wr.heap.size,1,none⟩) zy).trans y1,(b2'.cell (p:=⟨wr.heap.size,2,none⟩) zy).trans y2,(b2'.cell (p:=⟨wr.heap.size,3,none⟩) zy).trans y3,(b2'.cell (p:=⟨w.heap.size,1,none⟩) zx).trans e1,(b2'.cell (p:=⟨w.heap.size,2,none⟩) zx).trans e2⟩
         clear hK K;refine ae 2 xV ?_
         refine ae 3 xV ?_
         refine ae 4 xV ?_
         refine ae 5 xV ?_
         refine ae 6 xV ?_
         refine ae 7 xV ?_
         refine ae 8 xV ?_
         refine aw (i:=9) (by kernel_rfl) rfl (by kernel_rfl) (fun K hK=>?_)
         go_simp
         refine (dw _ x.n x.s ⟨g3,g4⟩).mono ?_
         rintro e w3 ⟨rfl,b3⟩;have b3':Below w1.heap.size w1 w3:=Below.andThen b2' b3;clear b3;go_wp2_with fail
         clear xV;refine hK.out _ _ ?_ (fun xV=>?_)
         . exact ⟨(b3'.cell (p:=⟨wr.heap.size,0,none⟩) zy).trans y0,(b3'.cell (p:=⟨wr.heap.size,1,none⟩) zy).trans y1,(b3'.cell (p:=⟨wr.heap.size,2,none⟩) zy).trans y2,(b3'.cell (p:=⟨wr.heap.size,3,none⟩) zy).trans y3,(b3'.cell (p:=⟨w.heap.size,1,none⟩) zx).trans e1,(b3'.cell (p:=⟨w.heap.size,2,none⟩) zx).trans e2⟩
         clear hK K;refine ae 10 xV ?_
         refine ae 11 xV ?_
         refine wpAnyH_done (by kernel_rfl) ?_ _
         clear xV;have n0:=(b3'.cell (p:=⟨w.heap.size,4,none⟩) zx).trans e4;have n1:=(b3'.cell (p:=⟨w.heap.size,12,none⟩) zx).trans e12;have n2:=(b3'.cell (p:=⟨wr.heap.size,2,none⟩) zy).trans y2;have HB:=aa (B1.trans (b3'.mono B1.size));have hat:dH x j (ss,cs,true,bs)=true:=(by unfold dH;simp [hM,HS.out,HL.out]);go_wp2
         go_roundw
         case rel=>exact ⟨j+1,by omega,by go_num,fun q m hq hm'=>by
          rcases Nat.lt_or_ge q j with h|h
          . exact hall q m h hm'
          obtain rfl:q=j:=by omega
          rw [HDJ.out] at hm';cases hm';exact hat,HB.out⟩
         case measure=>simp [intOf];omega
       have hL1:((j:Int)==x.lost)=false:=by simpa using hL
       have hL2:((j:Int) !=x.lost)=true:=by simpa using hL
       have HL:=aa hL;clear hL;cases hBr:x.xX
       . rw [hBr] at e12
         go_wp2_with fail
         generalize wr.alloc (.cells #[.slice a0 ss.length c0,.slice a1 cs.length c1,.bool true,.slice a3 bs.length c3] 55)=w1 at X1 Y1 R0 R1 R3 B1 y0 y1 y2 y3 e1 e2 e4 e12 zy zx ⊢;refine wp_region_held_drew (S:=fun w'=>w'.cell? ⟨wr.heap.size,0,none⟩=some (.slice a0 ss.length c0)/\w'.cell? ⟨wr.heap.size,1,none⟩=some (.slice a1 cs.length c1)/\w'.cell? ⟨wr.heap.size,2,none⟩=some (.bool true)/\w'.cell? ⟨wr.heap.size,3,none⟩=some (.slice a3 bs.length c3)/\w'.cell? ⟨w.heap.size,1,none⟩=some (.int .i64 x.n)/\w'.cell? ⟨w.heap.size,2,none⟩=some (.int .i64 x.s)) (by kernel_rfl) ?_ (fun xV=>?_)
         . exact ⟨y0,y1,y2,y3,e1,e2⟩
         refine ae 0 xV ?_
         refine aw (i:=1) (by kernel_rfl) rfl (by kernel_rfl) (fun K hK=>?_)
         go_simp
         refine (bG _ E _ _ _ _ _ _ _ _ _ ss cs true bs R0.drew R1.drew R3.drew hwm).mono ?_
         rintro e w2 ⟨rfl,b2⟩;rw [hM];have b2':Below w1.heap.size w1 w2:=(Below.refl w1.heap.size w1).drew.trans b2;clear b2;go_wp2_with fail
         clear xV;refine hK.out _ _ ?_ (fun xV=>?_)
         . exact ⟨(b2'.cell (p:=⟨wr.heap.size,0,none⟩) zy).trans y0,(b2'.cell (p:=⟨wr.heap.size,1,none⟩) zy).trans y1,(b2'.cell (p:=⟨wr.heap.size,2,none⟩) zy).trans y2,(b2'.cell (p:=⟨wr.heap.size,3,none⟩) zy).trans y3,(b2'.cell (p:=⟨w.heap.size,1,none⟩) zx).trans e1,(b2'.cell (p:=⟨w.heap.size,2,none⟩) zx).trans e2⟩
         clear hK K;refine ae 2 xV ?_
         refine ae 3 xV ?_
         refine ae 4 xV ?_
         refine ae 5 xV ?_
         refine ae 6 xV ?_
         refine ae 7 xV ?_
         refine ae 8 xV ?_
         refine aw (i:=9) (by kernel_rfl) rfl (by kernel_rfl) (fun K hK=>?_)
         go_simp
         refine (dw _ x.n x.s ⟨g3,g4⟩).mono ?_
         rintro e w3 ⟨rfl,b3⟩;have b3':Below w1.heap.size w1 w3:=Below.andThen b2' b3;clear b3;go_wp2_with fail
         clear xV;refine hK.out _ _ ?_ (fun xV=>?_)
         . exact ⟨(b3'.cell (p:=⟨wr.heap.size,0,none⟩) zy).trans y0,(b3'.cell (p:=⟨wr.heap.size,1,none⟩) zy).trans y1,(b3'.cell (p:=⟨wr.heap.size,2,none⟩) zy).trans y2,(b3'.cell (p:=⟨wr.heap.size,3,none⟩) zy).trans y3,(b3'.cell (p:=⟨w.heap.size,1,none⟩) zx).trans e1,(b3'.cell (p:=⟨w.heap.size,2,none⟩) zx).trans e2⟩
         clear hK K;refine ae 10 xV ?_
         refine ae 11 xV ?_
         refine wpAnyH_done (by kernel_rfl) ?_ _
         clear xV;have n0:=(b3'.cell (p:=⟨w.heap.size,4,none⟩) zx).trans e4;have n1:=(b3'.cell (p:=⟨w.heap.size,12,none⟩) zx).trans e12;have n2:=(b3'.cell (p:=⟨wr.heap.size,2,none⟩) zy).trans y2;have HB:=aa (hA.trans ((B1.trans (b3'.mono B1.size)).mono hA.size));go_wp2
         go_ret
         exact ⟨ah (by rw [show cI x ms=false from (by unfold cI;rw [gK HDJ.out (by unfold dH;simp [HL.out,hBr])];rfl)]),HB.out⟩
       rw [hBr] at e12;go_wp2_with fail
       generalize wr.alloc (.cells #[.slice a0 ss.length c0,.slice a1 cs.length c1,.bool true,.slice a3 bs.length c3] 55)=w1 at X1 Y1 R0 R1 R3 B1 y0 y1 y2 y3 e1 e2 e4 e12 zy zx ⊢;refine wp_region_held_drew (S:=fun w'=>w'.cell? ⟨wr.heap.size,0,none⟩=some (.slice a0 ss.length c0)/\w'.cell? ⟨wr.heap.size,1,none⟩=some (.slice a1 cs.length c1)/\w'.cell? ⟨wr.heap.size,2,none⟩=some (.bool true)/\w'.cell? ⟨wr.heap.size,3,none⟩=some (.slice a3 bs.length c3)/\w'.cell? ⟨w.heap.size,1,none⟩=some (.int .i64 x.n)/\w'.cell? ⟨w.heap.size,2,none⟩=some (.int .i64 x.s)) (by kernel_rfl) ?_ (fun xV=>?_)
       . exact ⟨y0,y1,y2,y3,e1,e2⟩
       refine ae 0 xV ?_
       refine aw (i:=1) (by kernel_rfl) rfl (by kernel_rfl) (fun K hK=>?_)
       go_simp
       refine (bG _ E _ _ _ _ _ _ _ _ _ ss cs true bs R0.drew R1.drew R3.drew hwm).mono ?_
       rintro e w2 ⟨rfl,b2⟩;rw [hM];have b2':Below w1.heap.size w1 w2:=(Below.refl w1.heap.size w1).drew.trans b2;clear b2;go_wp2_with fail
       clear xV;refine hK.out _ _ ?_ (fun xV=>?_)
       . exact ⟨(b2'.cell (p:=⟨wr.heap.size,0,none⟩) zy).trans y0,(b2'.cell (p:=⟨wr.heap.size,1,none⟩) zy).trans y1,(b2'.cell (p:=⟨wr.heap.size,2,none⟩) zy).trans y2,(b2'.cell (p:=⟨wr.heap.size,3,none⟩) zy).trans y3,(b2'.cell (p:=⟨w.heap.size,1,none⟩) zx).trans e1,(b2'.cell (p:=⟨w.heap.size,2,none⟩) zx).trans e2⟩
       clear hK K;refine ae 2 xV ?_
       refine ae 3 xV ?_
       refine ae 4 xV ?_
       refine ae 5 xV ?_
       refine ae 6 xV ?_
       refine ae 7 xV ?_
       refine ae 8 xV ?_
       refine aw (i:=9) (by kernel_rfl) rfl (by kernel_rfl) (fun K hK=>?_)
       go_simp
       refine (dw _ x.n x.s ⟨g3,g4⟩).mono ?_
       rintro e w3 ⟨rfl,b3⟩;have b3':Below w1.heap.size w1 w3:=Below.andThen b2' b3;clear b3;go_wp2_with fail
       clear xV;refine hK.out _ _ ?_ (fun xV=>?_)
       . exact ⟨(b3'.cell (p:=⟨wr.heap.size,0,none⟩) zy).trans y0,(b3'.cell (p:=⟨wr.heap.size,1,none⟩) zy).trans y1,(b3'.cell (p:=⟨wr.heap.size,2,none⟩) zy).trans y2,(b3'.cell (p:=⟨wr.heap.size,3,none⟩) zy).trans y3,(b3'.cell (p:=⟨w.heap.size,1,none⟩) zx).trans e1,(b3'.cell (p:=⟨w.heap.size,2,none⟩) zx).trans e2⟩
       clear hK K;refine ae 10 xV ?_
       refine ae 11 xV ?_
       refine wpAnyH_done (by kernel_rfl) ?_ _
       clear xV;have n0:=(b3'.cell (p:=⟨w.heap.size,4,none⟩) zx).trans e4;have n1:=(b3'.cell (p:=⟨w.heap.size,12,none⟩) zx).trans e12;have n2:=(b3'.cell (p:=⟨wr.heap.size,2,none⟩) zy).trans y2;have HB:=aa (B1.trans (b3'.mono B1.size));have hat:dH x j (ss,cs,true,bs)=true:=(by unfold dH;simp [hM,HS.out,hBr]);go_wp2
       go_roundw
       case rel=>exact ⟨j+1,by omega,by go_num,fun q m hq hm'=>by
        rcases Nat.lt_or_ge q j with h|h
        . exact hall q m h hm'
        obtain rfl:q=j:=by omega
        rw [HDJ.out] at hm';cases hm';exact hat,HB.out⟩
       case measure=>simp [intOf];omega
     have hS1:((ss.length:Int)==6+x.s)=false:=by simpa using hS
     have hS2:((ss.length:Int) !=6+x.s)=true:=by simpa using hS
     have HS:=aa hS;clear hS;go_wp2_with fail
     generalize wr.alloc (.cells #[.slice a0 ss.length c0,.slice a1 cs.length c1,.bool f,.slice a3 bs.length c3] 55)=w1 at X1 Y1 R0 R1 R3 B1 y0 y1 y2 y3 e1 e2 e4 e12 zy zx ⊢;refine wp_region_held_drew (S:=fun w'=>w'.cell? ⟨wr.heap.size,0,none⟩=some (.slice a0 ss.length c0)/\w'.cell? ⟨wr.heap.size,1,none⟩=some (.slice a1 cs.length c1)/\w'.cell? ⟨wr.heap.size,2,none⟩=some (.bool f)/\w'.cell? ⟨wr.heap.size,3,none⟩=some (.slice a3 bs.length c3)/\w'.cell? ⟨w.heap.size,1,none⟩=some (.int .i64 x.n)/\w'.cell? ⟨w.heap.size,2,none⟩=some (.int .i64 x.s)) (by kernel_rfl) ?_ (fun xV=>?_)
     . exact ⟨y0,y1,y2,y3,e1,e2⟩
     refine ae 0 xV ?_
     refine aw (i:=1) (by kernel_rfl) rfl (by kernel_rfl) (fun K hK=>?_)
     go_simp
     refine (bG _ E _ _ _ _ _ _ _ _ _ ss cs f bs R0.drew R1.drew R3.drew hwm).mono ?_
     rintro e w2 ⟨rfl,b2⟩;rw [hM];have b2':Below w1.heap.size w1 w2:=(Below.refl w1.heap.size w1).drew.trans b2;clear b2;go_wp2_with fail
     clear xV;refine hK.out _ _ ?_ (fun xV=>?_)
     . exact ⟨(b2'.cell (p:=⟨wr.heap.size,0,none⟩) zy).trans y0,(b2'.cell (p:=⟨wr.heap.size,1,none⟩) zy).trans y1,(b2'.cell (p:=⟨wr.heap.size,2,none⟩) zy).trans y2,(b2'.cell (p:=⟨wr.heap.size,3,none⟩) zy).trans y3,(b2'.cell (p:=⟨w.heap.size,1,none⟩) zx).trans e1,(b2'.cell (p:=⟨w.heap.size,2,none⟩) zx).trans e2⟩
     clear hK K;refine ae 2 xV ?_
     refine ae 3 xV ?_
     refine ae 4 xV ?_
     refine ae 5 xV ?_
     refine ae 6 xV ?_
     refine ae 7 xV ?_
     refine ae 8 xV ?_
     refine aw (i:=9) (by kernel_rfl) rfl (by kernel_rfl) (fun K hK=>?_)
     go_simp
     refine (dw _ x.n x.s ⟨g3,g4⟩).mono ?_
     rintro e w3 ⟨rfl,b3⟩;have b3':Below w1.heap.size w1 w3:=Below.andThen b2' b3;clear b3;go_wp2_with fail
     clear xV;refine hK.out _ _ ?_ (fun xV=>?_)
     . exact ⟨(b3'.cell (p:=⟨wr.heap.size,0,none⟩) zy).trans y0,(b3'.cell (p:=⟨wr.heap.size,1,none⟩) zy).trans y1,(b3'.cell (p:=⟨wr.heap.size,2,none⟩) zy).trans y2,(b3'.cell (p:=⟨wr.heap.size,3,none⟩) zy).trans y3,(b3'.cell (p:=⟨w.heap.size,1,none⟩) zx).trans e1,(b3'.cell (p:=⟨w.heap.size,2,none⟩) zx).trans e2⟩
     clear hK K;refine ae 10 xV ?_
     refine ae 11 xV ?_
     refine wpAnyH_done (by kernel_rfl) ?_ _
     clear xV;have n0:=(b3'.cell (p:=⟨w.heap.size,4,none⟩) zx).trans e4;have n1:=(b3'.cell (p:=⟨w.heap.size,12,none⟩) zx).trans e12;have n2:=(b3'.cell (p:=⟨wr.heap.size,2,none⟩) zy).trans y2;have HB:=aa (hA.trans ((B1.trans (b3'.mono B1.size)).mono hA.size));go_wp2
     go_ret
     exact ⟨ah (by rw [show cI x ms=false from (by unfold cI;rw [gK HDJ.out (by unfold dH;simp [HS.out])];rfl)]),HB.out⟩
   have e:j=nm:=by omega
   subst e;have hAll:mh (dH x) ms=true:=dR.2 (fun q m hq=>hall q m (by have:=(List.getElem?_eq_some_iff.1 hq).1;omega) hq);have HB:=aa (hA.trans (hb.mono hA.size));have hR:cI x ms=true:=by unfold cI;rw [hAll,hl];simpa using HN.out
   go_wp2
   go_ret
   exact ⟨ah hR.symm,HB.out⟩
 have hN1:((nm:Int)==x.n)=false:=by simpa using hN
 have hN2:((nm:Int) !=x.n)=true:=by simpa using hN
 have hR:cI x ms=false:=by unfold cI;rw [hl];simp [hN]
 have HR:=aa hR;clear hN hR;go_enter Tryz.func30,Tryz.ntmps30
 go_wp2
 go_ret
 exact ⟨ah HR.out.symm,hA⟩
end Go.Proofs.YtgjomldcnjjpaaaGreat
