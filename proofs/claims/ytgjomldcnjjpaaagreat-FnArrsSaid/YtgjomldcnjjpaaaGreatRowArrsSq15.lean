/-
 The walks of the specification's l8At and l8Stripe: where a stripe's entry is, a stripe as it is asked. Conditions: the array weighs at most 2097152; l8Stripe: a right Geo, such a stripe.
-/
import Derived.Test.YtgjomldcnjjpaaaGreatRowArrsSq10
import Derived.Test.YtgjomldcnjjpaaaGreatRowArrsSq6
import Derived.Test.YtgjomldcnjjpaaaGreatRowArrsSq3
import Derived.Test.YtgjomldcnjjpaaaGreatRowArrsSq1
import Derived.Test.YtgjomldcnjjpaaaGreatRowArrsSq5

set_option maxRecDepth 100000
set_option maxHeartbeats 8000000
set_option linter.unusedSimpArgs false

namespace Go.Proofs.YtgjomldcnjjpaaaGreat
open Go.RowKit

def mh {α:Type} (p:Nat->α->Bool) (l:List α):Bool:=(List.range l.length).all fun i=>(l[i]?.map (p i)).getD true
theorem dR {α:Type} {p:Nat->α->Bool} {l:List α}:mh p l=true ↔ ∀(i:Nat) (x:α),l[i]?=some x->p i x=true:=by
 unfold mh;rw [List.all_eq_true];constructor
 . intro h i x hx
   have:=h i (by rw [List.mem_range];exact (List.getElem?_eq_some_iff.1 hx).1);rw [hx] at this;simpa using this
 intro h i hi;cases hx:l[i]? with
 | none=>rfl
 | some x=>simpa using h i x hx
theorem gK {α:Type} {p:Nat->α->Bool} {l:List α} {i:Nat} {x:α} (hx:l[i]?=some x) (h:p i x=false):mh p l=false:=by
 cases hb:mh p l with
 | false=>rfl
 | true=>rw [dR.1 hb i x hx] at h;cases h
def dH (x:aq) (i:Nat) (m:ai):Bool:=bF m.1 m.2.1 m.2.2.2&&(decide ((m.1.length:Int)=6+x.s)&&(!m.2.2.1||(decide ((i:Int)=x.lost)||x.xX)))
def cI (x:aq) (ms:List ai):Bool:=mh (dH x) ms&&decide ((ms.length:Int)=x.n)
def dI (x:aq) (ds:List (Int×List Int)) (i:Nat) (e:Int×List Int):Bool:=inB e.1 0 (x.s-1)&&(decide ((e.2.length:Int)=x.n-1)&&(dg e.2&&(decide (i=0)||decide ((ds.getD (i-1) (0,[])).1<e.1))))
def ey (x:aq) (ds:List (Int×List Int)):Bool:=mh (dI x ds) ds
def dU (x:aq):Bool:=inB x.lost (-1) (x.n-1)&&(inB x.xW 0 x.s&&(!decide (x.lost=-1)||decide (x.xW=0)))
def ez (x:aq):Bool:=inB x.tail 0 60000&&(inB x.seq x.tail 60000&&(decide (x.seq<=x.tail+4)&&(inB x.gen 0 60000&&inB x.xY (-1) 1000)))
def bf (x:aq) (ms:List ai) (ds:List (Int×List Int)):Bool:=bL x.n x.s&&(inB x.id 1 60000&&(cI x ms&&(ey x ds&&(dU x&&ez x))))
theorem eH (w:World) (n s:Int) (hs:1<=s/\s<=8):Calls Tryz.prog 43 #[.agg #[.int .i64 n,.int .i64 s]] w fun e w'=>e=.returned (.int .i64 (6+s))/\Below w.heap.size w w':=by
 have hA:=af w (.cells #[.int .i64 n,.int .i64 s] 25);obtain ⟨k0,k1⟩:=(bK.new w 25 n s).cells;have hw:IntKind.i64.wrap (6+s)=6+s:=IntWalk.i64_in _ (by omega);go_enter Tryz.func43,Tryz.ntmps43
 go_wp2
 go_ret
 exact ⟨rfl,hA⟩
theorem sZ (w:World) (E F:TypeId) (x:aq) (am ad:Option Addr) (nm cm nd cd:Nat) (ms:List ai) (h0:(bI E F).Rd w [.slice am nm cm] ms) (hw:aQ ms<=2097152) (hg:bL x.n x.s=true):
 Calls Tryz.prog 35 #[.agg #[.int .i64 x.id,.int .i64 x.n,.int .i64 x.s,.slice am nm cm,.int .i64 x.lost,.int .i64 x.xW,.int .i64 x.seq,.int .i64 x.tail,.int .i64 x.gen,.slice ad nd cd,.int .i64 x.xY,.bool x.down,.bool x.xX]] w fun e w'=>e=.returned (.bool (cI x ms))/\Below w.heap.size w w':=by
 obtain ⟨hl,hc,hm⟩:=ag h0;obtain ⟨g1,g2,g3,g4⟩:=aB.1 hg;have hA:=af w (.cells #[.int .i64 x.id,.int .i64 x.n,.int .i64 x.s,.slice am nm cm,.int .i64 x.lost,.int .i64 x.xW,.int .i64 x.seq,.int .i64 x.tail,.int .i64 x.gen,.slice ad nd cd,.int .i64 x.xY,.bool x.down,.bool x.xX] 31);have X:=Box.new w 31 #[.int .i64 x.id,.int .i64 x.n,.int .i64 x.s,.slice am nm cm,.int .i64 x.lost,.int .i64 x.xW,.int .i64 x.seq,.int .i64 x.tail,.int .i64 x.gen,.slice ad nd cd,.int .i64 x.xY,.bool x.down,.bool x.xX];have zA:=X.lt;have hnm:nm<=2097152:=by unfold aQ at hw;omega
 have h1:=h0.below hA;go_enter Tryz.func35,Tryz.ntmps35
 go_wp2
 generalize w.alloc (.cells #[.int .i64 x.id,.int .i64 x.n,.int .i64 x.s,.slice am nm cm,.int .i64 x.lost,.int .i64 x.xW,.int .i64 x.seq,.int .i64 x.tail,.int .i64 x.gen,.slice ad nd cd,.int .i64 x.xY,.bool x.down,.bool x.xX] 31)=W at hA X zA h1 ⊢;go_loopw [3] (fun i wr=>∃j:Nat,j<=nm/\i=.int .i64 j/\(∀(q:Nat) (m:ai),q<j->ms[q]?=some m->dH x q m=true)/\Below W.heap.size W wr) (fun i _=>nm-(intOf i).toNat)
 case atStart=>exact ⟨0,Nat.zero_le _,rfl,fun q m hq=>by omega,Below.refl _ _⟩
 obtain ⟨j,hj,rfl,hall,hb⟩:=hrel;have Xr:=X.below hb zA;obtain ⟨k0,k1,k2,k3,k4,k5,k6,k7,k8,k9,k10,k11,k12⟩:=Xr.cells13;by_cases hjn:j<nm
 . rcases eb rfl h1 with h0'|⟨b,off,rfl,hbl,hcs⟩
   . omega
   have hdj:ms[j]?=some (ms[j]'(by omega)):=List.getElem?_eq_getElem (by omega);generalize ms[j]'(by omega)=m at hdj;obtain ⟨v0,v1,v2,v3,hv0,hv1,hv2,hv3,hrv⟩:=hcs j m hdj;obtain ⟨a0,c0,a1,c1,a3,c3,ss,cs,f,bs,rfl,rfl,rfl,rfl,rfl,r0,r1,r3⟩:=fV hrv;have u0:=(hb.cell (p:=⟨b,off+j*4,none⟩) hbl).trans hv0;have u1:=(hb.cell (p:=⟨b,off+j*4+1,none⟩) hbl).trans hv1;have u2:=(hb.cell (p:=⟨b,off+j*4+2,none⟩) hbl).trans hv2;have u3:=(hb.cell (p:=⟨b,off+j*4+3,none⟩) hbl).trans hv3;have i1:(0:Int)<=(j:Int):=by omega
   have i2:(j:Int)<(nm:Int):=by omega
   have hwm:=Nat.le_trans (ei hdj) hw;have HDJ:=aa hdj;clear hcs hv0 hv1 hv2 hv3 hrv hdj;have b1:=af wr (.cells #[.slice a0 ss.length c0,.slice a1 cs.length c1,.bool f,.slice a3 bs.length c3] 55);have Y1:=Box.new wr 55 #[.slice a0 ss.length c0,.slice a1 cs.length c1,.bool f,.slice a3 bs.length c3];have X1:=Xr.below b1 Xr.lt;have R0:=(r0.below hb).below b1;have R1:=(r1.below hb).below b1;have R3:=(r3.below hb).below b1;have B1:=hb.trans (b1.mono hb.size);clear r0 r1 r3 b1;obtain ⟨y0,y1,y2,y3⟩:=Y1.cells4;obtain ⟨e0,e1,e2,e3,e4,e5,e6,e7,e8,e9,e10,e11,e12⟩:=X1.cells13;have zy:=Y1.lt;have zx:=X1.lt;clear e0 e3 e5 e6 e7 e8 e9 e10 e11;cases hM:bF ss cs bs
   . skip
     go_wp2_with fail
     generalize wr.alloc (.cells #[.slice a0 ss.length c0,.slice a1 cs.length c1,.bool f,.slice a3 bs.length c3] 55)=w1 at X1 Y1 R0 R1 R3 B1 y0 y1 y2 y3 e1 e2 e4 e12 zy zx ⊢;refine wp_region_held_drew (S:=fun w'=>w'.cell? ⟨wr.heap.size,0,none⟩=some (.slice a0 ss.length c0)/\w'.cell? ⟨wr.heap.size,1,none⟩=some (.slice a1 cs.length c1)/\w'.cell? ⟨wr.heap.size,2,none⟩=some (.bool f)/\w'.cell? ⟨wr.heap.size,3,none⟩=some (.slice a3 bs.length c3)/\w'.cell? ⟨w.heap.size,1,none⟩=some (.int .i64 x.n)/\w'.cell? ⟨w.heap.size,2,none⟩=some (.int .i64 x.s)/\w'.cell? ⟨w.heap.size,4,none⟩=some (.int .i64 x.lost)/\w'.cell? ⟨w.heap.size,12,none⟩=some (.bool x.xX)) (by kernel_rfl) ?_ (fun xV=>?_)
     . exact ⟨y0,y1,y2,y3,e1,e2,e4,e12⟩
     refine ae 0 xV ?_
     refine aw (i:=1) (by kernel_rfl) rfl (by kernel_rfl) (fun K hK=>?_)
     go_simp
     refine (bw _ E _ _ _ _ _ _ _ _ _ ss cs f bs R0.drew R1.drew R3.drew hwm).mono ?_
     rintro e w2 ⟨rfl,b2⟩;rw [hM];have b2':Below w1.heap.size w1 w2:=(Below.refl w1.heap.size w1).drew.trans b2;clear b2;go_wp2_with fail
     clear xV;refine hK.out _ _ ?_ (fun xV=>?_)
     . exact ⟨(b2'.cell (p:=⟨wr.heap.size,0,none⟩) zy).trans y0,(b2'.cell (p:=⟨wr.heap.size,1,none⟩) zy).trans y1,(b2'.cell (p:=⟨wr.heap.size,2,none⟩) zy).trans y2,(b2'.cell (p:=⟨wr.heap.size,3,none⟩) zy).trans y3,(b2'.cell (p:=⟨w.heap.size,1,none⟩) zx).trans e1,(b2'.cell (p:=⟨w.heap.size,2,none⟩) zx).trans e2,(b2'.cell (p:=⟨w.heap.size,4,none⟩) zx).trans e4,(b2'.cell (p:=⟨w.heap.size,12,none⟩) zx).trans e12⟩
     clear hK K;refine ae 2 xV ?_
     refine ae 3 xV ?_
     refine au 4 xV ?_
     refine au 5 xV ?_
     refine au 6 xV ?_
     refine au 7 xV ?_
     refine au 8 xV ?_
     refine gp (i:=9) (by kernel_rfl) rfl (by kernel_rfl) xV ?_
     simp only [Act.put,List.setIfInBounds_toArray,List.set_cons_zero,List.set_cons_succ]
     refine au 10 xV ?_
     refine ae 11 xV ?_
     refine ae 12 xV ?_
     refine au 13 xV ?_
     refine au 14 xV ?_
     refine au 15 xV ?_
     refine au 16 xV ?_
     refine au 17 xV ?_
     refine au 18 xV ?_
     refine au 19 xV ?_
     refine au 20 xV ?_
     refine au 21 xV ?_
     refine au 22 xV ?_
     refine au 23 xV ?_
     refine au 24 xV ?_
     refine au 25 xV ?_
     refine ae 26 xV ?_
     refine wpAnyH_done (by kernel_rfl) ?_ _
     clear xV;have HB:=aa (hA.trans ((B1.trans (b2'.mono B1.size)).mono hA.size));go_wp2
     go_ret
     exact ⟨ah (by rw [show cI x ms=false from (by unfold cI;rw [gK HDJ.out (by unfold dH;simp [hM])];rfl)]),HB.out⟩
   by_cases hS:(ss.length:Int)=6+x.s
   . have hS1:((ss.length:Int)==6+x.s)=true:=by simpa using hS
     have hS2:((ss.length:Int) !=6+x.s)=false:=by simpa using hS
     have HS:=aa hS;clear hS;cases f
     . skip
       go_wp2_with fail
       generalize wr.alloc (.cells #[.slice a0 ss.length c0,.slice a1 cs.length c1,.bool false,.slice a3 bs.length c3] 55)=w1 at X1 Y1 R0 R1 R3 B1 y0 y1 y2 y3 e1 e2 e4 e12 zy zx ⊢;refine wp_region_held_drew (S:=fun w'=>w'.cell? ⟨wr.heap.size,0,none⟩=some (.slice a0 ss.length c0)/\w'.cell? ⟨wr.heap.size,1,none⟩=some (.slice a1 cs.length c1)/\w'.cell? ⟨wr.heap.size,2,none⟩=some (.bool false)/\w'.cell? ⟨wr.heap.size,3,none⟩=some (.slice a3 bs.length c3)/\w'.cell? ⟨w.heap.size,1,none⟩=some (.int .i64 x.n)/\w'.cell? ⟨w.heap.size,2,none⟩=some (.int .i64 x.s)/\w'.cell? ⟨w.heap.size,4,none⟩=some (.int .i64 x.lost)/\w'.cell? ⟨w.heap.size,12,none⟩=some (.bool x.xX)) (by kernel_rfl) ?_ (fun xV=>?_)
       . exact ⟨y0,y1,y2,y3,e1,e2,e4,e12⟩
       refine ae 0 xV ?_
       refine aw (i:=1) (by kernel_rfl) rfl (by kernel_rfl) (fun K hK=>?_)
       go_simp
       refine (bw _ E _ _ _ _ _ _ _ _ _ ss cs false bs R0.drew R1.drew R3.drew hwm).mono ?_
       rintro e w2 ⟨rfl,b2⟩;rw [hM];have b2':Below w1.heap.size w1 w2:=(Below.refl w1.heap.size w1).drew.trans b2;clear b2;go_wp2_with fail
       clear xV;refine hK.out _ _ ?_ (fun xV=>?_)
       . exact ⟨(b2'.cell (p:=⟨wr.heap.size,0,none⟩) zy).trans y0,(b2'.cell (p:=⟨wr.heap.size,1,none⟩) zy).trans y1,(b2'.cell (p:=⟨wr.heap.size,2,none⟩) zy).trans y2,(b2'.cell (p:=⟨wr.heap.size,3,none⟩) zy).trans y3,(b2'.cell (p:=⟨w.heap.size,1,none⟩) zx).trans e1,(b2'.cell (p:=⟨w.heap.size,2,none⟩) zx).trans e2,(b2'.cell (p:=⟨w.heap.size,4,none⟩) zx).trans e4,(b2'.cell (p:=⟨w.heap.size,12,none⟩) zx).trans e12⟩
       clear hK K;refine ae 2 xV ?_
       refine ae 3 xV ?_
       refine ae 4 xV ?_
       refine ae 5 xV ?_
       refine ae 6 xV ?_
       refine ae 7 xV ?_
       refine ae 8 xV ?_
       refine aw (i:=9) (by kernel_rfl) rfl (by kernel_rfl) (fun K hK=>?_)
       go_simp
       refine (eH _ x.n x.s ⟨g3,g4⟩).mono ?_
       rintro e w3 ⟨rfl,b3⟩;have b3':Below w1.heap.size w1 w3:=Below.andThen b2' b3;clear b3;go_wp2_with fail
       clear xV;refine hK.out _ _ ?_ (fun xV=>?_)
       . exact ⟨(b3'.cell (p:=⟨wr.heap.size,0,none⟩) zy).trans y0,(b3'.cell (p:=⟨wr.heap.size,1,none⟩) zy).trans y1,(b3'.cell (p:=⟨wr.heap.size,2,none⟩) zy).trans y2,(b3'.cell (p:=⟨wr.heap.size,3,none⟩) zy).trans y3,(b3'.cell (p:=⟨w.heap.size,1,none⟩) zx).trans e1,(b3'.cell (p:=⟨w.heap.size,2,none⟩) zx).trans e2,(b3'.cell (p:=⟨w.heap.size,4,none⟩) zx).trans e4,(b3'.cell (p:=⟨w.heap.size,12,none⟩) zx).trans e12⟩
       clear hK K;refine ae 10 xV ?_
       refine ae 11 xV ?_
       refine ae 12 xV ?_
       refine ae 13 xV ?_
       refine ae 14 xV ?_
       refine ae 15 xV ?_
       refine au 16 xV ?_
       refine au 17 xV ?_
       refine au 18 xV ?_
       refine au 19 xV ?_
       refine ae 20 xV ?_
       refine ae 21 xV ?_
       refine au 22 xV ?_
       refine au 23 xV ?_
       refine au 24 xV ?_
       refine ae 25 xV ?_
       refine ae 26 xV ?_
       refine wpAnyH_done (by kernel_rfl) ?_ _
       clear xV;have HB:=aa (B1.trans (b3'.mono B1.size));have hat:dH x j (ss,cs,false,bs)=true:=(by unfold dH;simp [hM,HS.out]);go_wp2
       go_roundw
       case rel=>exact ⟨j+1,by omega,by go_num,fun q m hq hm'=>by
        rcases Nat.lt_or_ge q j with h|h
        . exact hall q m h hm'
        obtain rfl:q=j:=by omega
        rw [HDJ.out] at hm';cases hm';exact hat,HB.out⟩
       case measure=>simp [intOf];omega
     by_cases hL:(j:Int)=x.lost
     . have hL1:((j:Int)==x.lost)=true:=by simpa using hL
       have hL2:((j:Int) !=x.lost)=false:=by simpa using hL
       have HL:=aa hL;clear hL;go_wp2_with fail
       generalize wr.alloc (.cells #[.slice a0 ss.length c0,.slice a1 cs.length c1,.bool true,.slice a3 bs.length c3] 55)=w1 at X1 Y1 R0 R1 R3 B1 y0 y1 y2 y3 e1 e2 e4 e12 zy zx ⊢;refine wp_region_held_drew (S:=fun w'=>w'.cell? ⟨wr.heap.size,0,none⟩=some (.slice a0 ss.length c0)/\w'.cell? ⟨wr.heap.size,1,none⟩=some (.slice a1 cs.length c1)/\w'.cell? ⟨wr.heap.size,2,none⟩=some (.bool true)/\w'.cell? ⟨wr.heap.size,3,none⟩=some (.slice a3 bs.length c3)/\w'.cell? ⟨w.heap.size,1,none⟩=some (.int .i64 x.n)/\w'.cell? ⟨w.heap.size,2,none⟩=some (.int .i64 x.s)/\w'.cell? ⟨w.heap.size,4,none⟩=some (.int .i64 x.lost)/\w'.cell? ⟨w.heap.size,12,none⟩=some (.bool x.xX)) (by kernel_rfl) ?_ (fun xV=>?_)
       . exact ⟨y0,y1,y2,y3,e1,e2,e4,e12⟩
       refine ae 0 xV ?_
       refine aw (i:=1) (by kernel_rfl) rfl (by kernel_rfl) (fun K hK=>?_)
       go_simp
       refine (bw _ E _ _ _ _ _ _ _ _ _ ss cs true bs R0.drew R1.drew R3.drew hwm).mono ?_
       rintro e w2 ⟨rfl,b2⟩;rw [hM];have b2':Below w1.heap.size w1 w2:=(Below.refl w1.heap.size w1).drew.trans b2;clear b2;go_wp2_with fail
       clear xV;refine hK.out _ _ ?_ (fun xV=>?_)
       . exact ⟨(b2'.cell (p:=⟨wr.heap.size,0,none⟩) zy).trans y0,(b2'.cell (p:=⟨wr.heap.size,1,none⟩) zy).trans y1,(b2'.cell (p:=⟨wr.heap.size,2,none⟩) zy).trans y2,(b2'.cell (p:=⟨wr.heap.size,3,none⟩) zy).trans y3,(b2'.cell (p:=⟨w.heap.size,1,none⟩) zx).trans e1,(b2'.cell (p:=⟨w.heap.size,2,none⟩) zx).trans e2,(b2'.cell (p:=⟨w.heap.size,4,none⟩) zx).trans e4,(b2'.cell (p:=⟨w.heap.size,12,none⟩) zx).trans e12⟩
       clear hK K;refine ae 2 xV ?_
       refine ae 3 xV ?_
       refine ae 4 xV ?_
       refine ae 5 xV ?_
       refine ae 6 xV ?_
       refine ae 7 xV ?_
       refine ae 8 xV ?_
       refine aw (i:=9) (by kernel_rfl) rfl (by kernel_rfl) (fun K hK=>?_)
       go_simp
       refine (eH _ x.n x.s ⟨g3,g4⟩).mono ?_
       rintro e w3 ⟨rfl,b3⟩;have b3':Below w1.heap.size w1 w3:=Below.andThen b2' b3;clear b3;go_wp2_with fail
       clear xV;refine hK.out _ _ ?_ (fun xV=>?_)
       . exact ⟨(b3'.cell (p:=⟨wr.heap.size,0,none⟩) zy).trans y0,(b3'.cell (p:=⟨wr.heap.size,1,none⟩) zy).trans y1,(b3'.cell (p:=⟨wr.heap.size,2,none⟩) zy).trans y2,(b3'.cell (p:=⟨wr.heap.size,3,none⟩) zy).trans y3,(b3'.cell (p:=⟨w.heap.size,1,none⟩) zx).trans e1,(b3'.cell (p:=⟨w.heap.size,2,none⟩) zx).trans e2,(b3'.cell (p:=⟨w.heap.size,4,none⟩) zx).trans e4,(b3'.cell (p:=⟨w.heap.size,12,none⟩) zx).trans e12⟩
       clear hK K;refine ae 10 xV ?_
       refine ae 11 xV ?_
       refine ae 12 xV ?_
       refine ae 13 xV ?_
       refine ae 14 xV ?_
       refine ae 15 xV ?_
       refine ae 16 xV ?_
       refine ae 17 xV ?_
       refine ae 18 xV ?_
       refine ae 19 xV ?_
       refine ae 20 xV ?_
       refine ae 21 xV ?_
       refine au 22 xV ?_
       refine au 23 xV ?_
       refine au 24 xV ?_
       refine ae 25 xV ?_
       refine ae 26 xV ?_
       refine wpAnyH_done (by kernel_rfl) ?_ _
       clear xV;have HB:=aa (B1.trans (b3'.mono B1.size));have hat:dH x j (ss,cs,true,bs)=true:=(by unfold dH;simp [hM,HS.out,HL.out]);go_wp2
       go_roundw
       case rel=>exact ⟨j+1,by omega,by go_num,fun q m hq hm'=>by
        rcases Nat.lt_or_ge q j with h|h
        . exact hall q m h hm'
        obtain rfl:q=j:=by omega
        rw [HDJ.out] at hm';cases hm';exact hat,HB.out⟩
       case measure=>simp [intOf];omega
     have hL1:((j:Int)==x.lost)=false:=by simpa using hL
     have hL2:((j:Int) !=x.lost)=true:=by simpa using hL
     have HL:=aa hL;clear hL;cases hBr:x.xX
     . rw [hBr] at e12
       go_wp2_with fail
       generalize wr.alloc (.cells #[.slice a0 ss.length c0,.slice a1 cs.length c1,.bool true,.slice a3 bs.length c3] 55)=w1 at X1 Y1 R0 R1 R3 B1 y0 y1 y2 y3 e1 e2 e4 e12 zy zx ⊢;refine wp_region_held_drew (S:=fun w'=>w'.cell? ⟨wr.heap.size,0,none⟩=some (.slice a0 ss.length c0)/\w'.cell? ⟨wr.heap.size,1,none⟩=some (.slice a1 cs.length c1)/\w'.cell? ⟨wr.heap.size,2,none⟩=some (.bool true)/\w'.cell? ⟨wr.heap.size,3,none⟩=some (.slice a3 bs.length c3)/\w'.cell? ⟨w.heap.size,1,none⟩=some (.int .i64 x.n)/\w'.cell? ⟨w.heap.size,2,none⟩=some (.int .i64 x.s)/\w'.cell? ⟨w.heap.size,4,none⟩=some (.int .i64 x.lost)/\w'.cell? ⟨w.heap.size,12,none⟩=some (.bool false)) (by kernel_rfl) ?_ (fun xV=>?_)
       . exact ⟨y0,y1,y2,y3,e1,e2,e4,e12⟩
       refine ae 0 xV ?_
       refine aw (i:=1) (by kernel_rfl) rfl (by kernel_rfl) (fun K hK=>?_)
       go_simp
       refine (bw _ E _ _ _ _ _ _ _ _ _ ss cs true bs R0.drew R1.drew R3.drew hwm).mono ?_
       rintro e w2 ⟨rfl,b2⟩;rw [hM];have b2':Below w1.heap.size w1 w2:=(Below.refl w1.heap.size w1).drew.trans b2;clear b2;go_wp2_with fail
       clear xV;refine hK.out _ _ ?_ (fun xV=>?_)
       . exact ⟨(b2'.cell (p:=⟨wr.heap.size,0,none⟩) zy).trans y0,(b2'.cell (p:=⟨wr.heap.size,1,none⟩) zy).trans y1,(b2'.cell (p:=⟨wr.heap.size,2,none⟩) zy).trans y2,(b2'.cell (p:=⟨wr.heap.size,3,none⟩) zy).trans y3,(b2'.cell (p:=⟨w.heap.size,1,none⟩) zx).trans e1,(b2'.cell (p:=⟨w.heap.size,2,none⟩) zx).trans e2,(b2'.cell (p:=⟨w.heap.size,4,none⟩) zx).trans e4,(b2'.cell (p:=⟨w.heap.size,12,none⟩) zx).trans e12⟩
       clear hK K;refine ae 2 xV ?_
       refine ae 3 xV ?_
       refine ae 4 xV ?_
       refine ae 5 xV ?_
       refine ae 6 xV ?_
       refine ae 7 xV ?_
       refine ae 8 xV ?_
       refine aw (i:=9) (by kernel_rfl) rfl (by kernel_rfl) (fun K hK=>?_)
       go_simp
       refine (eH _ x.n x.s ⟨g3,g4⟩).mono ?_
       rintro e w3 ⟨rfl,b3⟩;have b3':Below w1.heap.size w1 w3:=Below.andThen b2' b3;clear b3;go_wp2_with fail
       clear xV;refine hK.out _ _ ?_ (fun xV=>?_)
       . exact ⟨(b3'.cell (p:=⟨wr.heap.size,0,none⟩) zy).trans y0,(b3'.cell (p:=⟨wr.heap.size,1,none⟩) zy).trans y1,(b3'.cell (p:=⟨wr.heap.size,2,none⟩) zy).trans y2,(b3'.cell (p:=⟨wr.heap.size,3,none⟩) zy).trans y3,(b3'.cell (p:=⟨w.heap.size,1,none⟩) zx).trans e1,(b3'.cell (p:=⟨w.heap.size,2,none⟩) zx).trans e2,(b3'.cell (p:=⟨w.heap.size,4,none⟩) zx).trans e4,(b3'.cell (p:=⟨w.heap.size,12,none⟩) zx).trans e12⟩
       clear hK K;refine ae 10 xV ?_
       refine ae 11 xV ?_
       refine ae 12 xV ?_
       refine ae 13 xV ?_
       refine ae 14 xV ?_
       refine ae 15 xV ?_
       refine ae 16 xV ?_
       refine ae 17 xV ?_
       refine ae 18 xV ?_
       refine ae 19 xV ?_
       refine ae 20 xV ?_
       refine ae 21 xV ?_
       refine ae 22 xV ?_
       refine ae 23 xV ?_
       refine ae 24 xV ?_
       refine ae 25 xV ?_
       refine ae 26 xV ?_
       refine wpAnyH_done (by kernel_rfl) ?_ _
       clear xV;have HB:=aa (hA.trans ((B1.trans (b3'.mono B1.size)).mono hA.size));go_wp2
       go_ret
       exact ⟨ah (by rw [show cI x ms=false from (by unfold cI;rw [gK HDJ.out (by unfold dH;simp [HL.out,hBr])];rfl)]),HB.out⟩
     rw [hBr] at e12;go_wp2_with fail
     generalize wr.alloc (.cells #[.slice a0 ss.length c0,.slice a1 cs.length c1,.bool true,.slice a3 bs.length c3] 55)=w1 at X1 Y1 R0 R1 R3 B1 y0 y1 y2 y3 e1 e2 e4 e12 zy zx ⊢;refine wp_region_held_drew (S:=fun w'=>w'.cell? ⟨wr.heap.size,0,none⟩=some (.slice a0 ss.length c0)/\w'.cell? ⟨wr.heap.size,1,none⟩=some (.slice a1 cs.length c1)/\w'.cell? ⟨wr.heap.size,2,none⟩=some (.bool true)/\w'.cell? ⟨wr.heap.size,3,none⟩=some (.slice a3 bs.length c3)/\w'.cell? ⟨w.heap.size,1,none⟩=some (.int .i64 x.n)/\w'.cell? ⟨w.heap.size,2,none⟩=some (.int .i64 x.s)/\w'.cell? ⟨w.heap.size,4,none⟩=some (.int .i64 x.lost)/\w'.cell? ⟨w.heap.size,12,none⟩=some (.bool true)) (by kernel_rfl) ?_ (fun xV=>?_)
     . exact ⟨y0,y1,y2,y3,e1,e2,e4,e12⟩
     refine ae 0 xV ?_
     refine aw (i:=1) (by kernel_rfl) rfl (by kernel_rfl) (fun K hK=>?_)
     go_simp
     refine (bw _ E _ _ _ _ _ _ _ _ _ ss cs true bs R0.drew R1.drew R3.drew hwm).mono ?_
     rintro e w2 ⟨rfl,b2⟩;rw [hM];have b2':Below w1.heap.size w1 w2:=(Below.refl w1.heap.size w1).drew.trans b2;clear b2;go_wp2_with fail
     clear xV;refine hK.out _ _ ?_ (fun xV=>?_)
     . exact ⟨(b2'.cell (p:=⟨wr.heap.size,0,none⟩) zy).trans y0,(b2'.cell (p:=⟨wr.heap.size,1,none⟩) zy).trans y1,(b2'.cell (p:=⟨wr.heap.size,2,none⟩) zy).trans y2,(b2'.cell (p:=⟨wr.heap.size,3,none⟩) zy).trans y3,(b2'.cell (p:=⟨w.heap.size,1,none⟩) zx).trans e1,(b2'.cell (p:=⟨w.heap.size,2,none⟩) zx).trans e2,(b2'.cell (p:=⟨w.heap.size,4,none⟩) zx).trans e4,(b2'.cell (p:=⟨w.heap.size,12,none⟩) zx).trans e12⟩
     clear hK K;refine ae 2 xV ?_
     refine ae 3 xV ?_
     refine ae 4 xV ?_
     refine ae 5 xV ?_
     refine ae 6 xV ?_
     refine ae 7 xV ?_
     refine ae 8 xV ?_
     refine aw (i:=9) (by kernel_rfl) rfl (by kernel_rfl) (fun K hK=>?_)
     go_simp
     refine (eH _ x.n x.s ⟨g3,g4⟩).mono ?_
     rintro e w3 ⟨rfl,b3⟩;have b3':Below w1.heap.size w1 w3:=Below.andThen b2' b3;clear b3;go_wp2_with fail
     clear xV;refine hK.out _ _ ?_ (fun xV=>?_)
     . exact ⟨(b3'.cell (p:=⟨wr.heap.size,0,none⟩) zy).trans y0,(b3'.cell (p:=⟨wr.heap.size,1,none⟩) zy).trans y1,(b3'.cell (p:=⟨wr.heap.size,2,none⟩) zy).trans y2,(b3'.cell (p:=⟨wr.heap.size,3,none⟩) zy).trans y3,(b3'.cell (p:=⟨w.heap.size,1,none⟩) zx).trans e1,(b3'.cell (p:=⟨w.heap.size,2,none⟩) zx).trans e2,(b3'.cell (p:=⟨w.heap.size,4,none⟩) zx).trans e4,(b3'.cell (p:=⟨w.heap.size,12,none⟩) zx).trans e12⟩
     clear hK K;refine ae 10 xV ?_
     refine ae 11 xV ?_
     refine ae 12 xV ?_
     refine ae 13 xV ?_
     refine ae 14 xV ?_
     refine ae 15 xV ?_
     refine ae 16 xV ?_
     refine ae 17 xV ?_
     refine ae 18 xV ?_
     refine ae 19 xV ?_
     refine ae 20 xV ?_
     refine ae 21 xV ?_
     refine ae 22 xV ?_
     refine ae 23 xV ?_
     refine ae 24 xV ?_
     refine ae 25 xV ?_
     refine ae 26 xV ?_
     refine wpAnyH_done (by kernel_rfl) ?_ _
     clear xV;have HB:=aa (B1.trans (b3'.mono B1.size));have hat:dH x j (ss,cs,true,bs)=true:=(by unfold dH;simp [hM,HS.out,hBr]);go_wp2
     go_roundw
     case rel=>exact ⟨j+1,by omega,by go_num,fun q m hq hm'=>by
      rcases Nat.lt_or_ge q j with h|h
      . exact hall q m h hm'
      obtain rfl:q=j:=by omega
      rw [HDJ.out] at hm';cases hm';exact hat,HB.out⟩
     case measure=>simp [intOf];omega
   have hS1:((ss.length:Int)==6+x.s)=false:=by simpa using hS
   have hS2:((ss.length:Int) !=6+x.s)=true:=by simpa using hS
   have HS:=aa hS;clear hS;go_wp2_with fail
   generalize wr.alloc (.cells #[.slice a0 ss.length c0,.slice a1 cs.length c1,.bool f,.slice a3 bs.length c3] 55)=w1 at X1 Y1 R0 R1 R3 B1 y0 y1 y2 y3 e1 e2 e4 e12 zy zx ⊢;refine wp_region_held_drew (S:=fun w'=>w'.cell? ⟨wr.heap.size,0,none⟩=some (.slice a0 ss.length c0)/\w'.cell? ⟨wr.heap.size,1,none⟩=some (.slice a1 cs.length c1)/\w'.cell? ⟨wr.heap.size,2,none⟩=some (.bool f)/\w'.cell? ⟨wr.heap.size,3,none⟩=some (.slice a3 bs.length c3)/\w'.cell? ⟨w.heap.size,1,none⟩=some (.int .i64 x.n)/\w'.cell? ⟨w.heap.size,2,none⟩=some (.int .i64 x.s)/\w'.cell? ⟨w.heap.size,4,none⟩=some (.int .i64 x.lost)/\w'.cell? ⟨w.heap.size,12,none⟩=some (.bool x.xX)) (by kernel_rfl) ?_ (fun xV=>?_)
   . exact ⟨y0,y1,y2,y3,e1,e2,e4,e12⟩
   refine ae 0 xV ?_
   refine aw (i:=1) (by kernel_rfl) rfl (by kernel_rfl) (fun K hK=>?_)
   go_simp
   refine (bw _ E _ _ _ _ _ _ _ _ _ ss cs f bs R0.drew R1.drew R3.drew hwm).mono ?_
   rintro e w2 ⟨rfl,b2⟩;rw [hM];have b2':Below w1.heap.size w1 w2:=(Below.refl w1.heap.size w1).drew.trans b2;clear b2;go_wp2_with fail
   clear xV;refine hK.out _ _ ?_ (fun xV=>?_)
   . exact ⟨(b2'.cell (p:=⟨wr.heap.size,0,none⟩) zy).trans y0,(b2'.cell (p:=⟨wr.heap.size,1,none⟩) zy).trans y1,(b2'.cell (p:=⟨wr.heap.size,2,none⟩) zy).trans y2,(b2'.cell (p:=⟨wr.heap.size,3,none⟩) zy).trans y3,(b2'.cell (p:=⟨w.heap.size,1,none⟩) zx).trans e1,(b2'.cell (p:=⟨w.heap.size,2,none⟩) zx).trans e2,(b2'.cell (p:=⟨w.heap.size,4,none⟩) zx).trans e4,(b2'.cell (p:=⟨w.heap.size,12,none⟩) zx).trans e12⟩
   clear hK K;refine ae 2 xV ?_
   refine ae 3 xV ?_
   refine ae 4 xV ?_
   refine ae 5 xV ?_
   refine ae 6 xV ?_
   refine ae 7 xV ?_
   refine ae 8 xV ?_
   refine aw (i:=9) (by kernel_rfl) rfl (by kernel_rfl) (fun K hK=>?_)
   go_simp
   refine (eH _ x.n x.s ⟨g3,g4⟩).mono ?_
   rintro e w3 ⟨rfl,b3⟩;have b3':Below w1.heap.size w1 w3:=Below.andThen b2' b3;clear b3;go_wp2_with fail
   clear xV;refine hK.out _ _ ?_ (fun xV=>?_)
   . exact ⟨(b3'.cell (p:=⟨wr.heap.size,0,none⟩) zy).trans y0,(b3'.cell (p:=⟨wr.heap.size,1,none⟩) zy).trans y1,(b3'.cell (p:=⟨wr.heap.size,2,none⟩) zy).trans y2,(b3'.cell (p:=⟨wr.heap.size,3,none⟩) zy).trans y3,(b3'.cell (p:=⟨w.heap.size,1,none⟩) zx).trans e1,(b3'.cell (p:=⟨w.heap.size,2,none⟩) zx).trans e2,(b3'.cell (p:=⟨w.heap.size,4,none⟩) zx).trans e4,(b3'.cell (p:=⟨w.heap.size,12,none⟩) zx).trans e12⟩
   clear hK K;refine ae 10 xV ?_
   refine ae 11 xV ?_
   refine ae 12 xV ?_
   refine au 13 xV ?_
   refine au 14 xV ?_
   refine au 15 xV ?_
   refine au 16 xV ?_
   refine au 17 xV ?_
   refine au 18 xV ?_
   refine au 19 xV ?_
   refine au 20 xV ?_
   refine au 21 xV ?_
   refine au 22 xV ?_
   refine au 23 xV ?_
   refine au 24 xV ?_
   refine au 25 xV ?_
   refine ae 26 xV ?_
   refine wpAnyH_done (by kernel_rfl) ?_ _
   clear xV;have HB:=aa (hA.trans ((B1.trans (b3'.mono B1.size)).mono hA.size));go_wp2
   go_ret
   exact ⟨ah (by rw [show cI x ms=false from (by unfold cI;rw [gK HDJ.out (by unfold dH;simp [HS.out])];rfl)]),HB.out⟩
 have e:j=nm:=by omega
 subst e;have hAll:mh (dH x) ms=true:=dR.2 (fun q m hq=>hall q m (by have:=(List.getElem?_eq_some_iff.1 hq).1;omega) hq);have HB:=aa (hA.trans (hb.mono hA.size));have hR:cI x ms=((j:Int)==x.n):=by unfold cI;rw [hAll,hl];simp [BEq.beq]
 go_wp2
 go_ret
 exact ⟨ah hR.symm,HB.out⟩
def pT (x:aq) (m:Int):aq:=if x.lost=-1∨x.lost=m then {x with lost:=m,xW:=0} else {x with xX:=true}
def at8 (ds:List (Int×List Int)) (s:Int):Int:=
 match ds.findIdx? (fun e=>decide (e.1=s)) with
 | some i=>(i:Int)
 | none=>-1
theorem qA {ds:List (Int×List Int)} {s:Int} {j:Nat} {e:Int×List Int} (hj:ds[j]?=some e) (he:e.1=s) (hb:∀i e',i<j->ds[i]?=some e'->¬e'.1=s):at8 ds s=(j:Int):=by
 have hl:=(List.getElem?_eq_some_iff.1 hj).1;have:ds.findIdx? (fun e=>decide (e.1=s))=some j:=by
  rw [List.findIdx?_eq_some_iff_getElem];refine ⟨hl,?_,fun i hi=>?_⟩
  . have:ds[j]=e:=by rw [List.getElem?_eq_getElem hl] at hj;simpa using hj
    rw [this];simpa using he
  have:=hb i ds[i] hi (List.getElem?_eq_getElem (by omega));simpa using this
 unfold at8;rw [this]
theorem rH {ds:List (Int×List Int)} {s:Int} (hb:∀i e',i<ds.length->ds[i]?=some e'->¬e'.1=s):at8 ds s=-1:=by
 have:ds.findIdx? (fun e=>decide (e.1=s))=none:=by
  rw [List.findIdx?_eq_none_iff];intro e he;obtain ⟨i,hi⟩:=List.mem_iff_getElem?.1 he;have:=hb i e (List.getElem?_eq_some_iff.1 hi).1 hi;simpa using this
 unfold at8;rw [this]
theorem iA (ds:List (Int×List Int)) (s:Int):at8 ds s=-1∨∃(j:Nat) (e:Int×List Int),at8 ds s=(j:Int)/\ds[j]?=some e/\e.1=s:=by
 unfold at8;cases h:ds.findIdx? (fun e=>decide (e.1=s)) with
 | none=>exact .inl rfl
 | some i=>
  rw [List.findIdx?_eq_some_iff_getElem] at h;obtain ⟨hl,hp,_⟩:=h;exact .inr ⟨i,ds[i],rfl,List.getElem?_eq_getElem hl,by simpa using hp⟩
theorem rI (w:World) (G:TypeId) (x:aq) (am ad:Option Addr) (nm cm nd cd:Nat) (ds:List (Int×List Int)) (s:Int) (h1:(aW G).Rd w [.slice ad nd cd] ds) (hn:nd<=2097152):
 Calls Tryz.prog 131 #[.agg #[.int .i64 x.id,.int .i64 x.n,.int .i64 x.s,.slice am nm cm,.int .i64 x.lost,.int .i64 x.xW,.int .i64 x.seq,.int .i64 x.tail,.int .i64 x.gen,.slice ad nd cd,.int .i64 x.xY,.bool x.down,.bool x.xX],.int .i64 s] w fun e w'=>e=.returned (.int .i64 (at8 ds s))/\Below w.heap.size w w':=by
 obtain ⟨hl,_,_⟩:=ag h1;have hA:=af w (.cells #[.int .i64 x.id,.int .i64 x.n,.int .i64 x.s,.slice am nm cm,.int .i64 x.lost,.int .i64 x.xW,.int .i64 x.seq,.int .i64 x.tail,.int .i64 x.gen,.slice ad nd cd,.int .i64 x.xY,.bool x.down,.bool x.xX] 31);have X:=Box.new w 31 #[.int .i64 x.id,.int .i64 x.n,.int .i64 x.s,.slice am nm cm,.int .i64 x.lost,.int .i64 x.xW,.int .i64 x.seq,.int .i64 x.tail,.int .i64 x.gen,.slice ad nd cd,.int .i64 x.xY,.bool x.down,.bool x.xX];have zX:=X.lt;have c9:(w.alloc (.cells #[.int .i64 x.id,.int .i64 x.n,.int .i64 x.s,.slice am nm cm,.int .i64 x.lost,.int .i64 x.xW,.int .i64 x.seq,.int .i64 x.tail,.int .i64 x.gen,.slice ad nd cd,.int .i64 x.xY,.bool x.down,.bool x.xX] 31)).cell? ⟨w.heap.size,9,none⟩=some (.slice ad nd cd):=X.cell 9;have HA:=aa hA;go_enter Tryz.func131,Tryz.ntmps131
 go_wp2
 generalize w.alloc (.cells #[.int .i64 x.id,.int .i64 x.n,.int .i64 x.s,.slice am nm cm,.int .i64 x.lost,.int .i64 x.xW,.int .i64 x.seq,.int .i64 x.tail,.int .i64 x.gen,.slice ad nd cd,.int .i64 x.xY,.bool x.down,.bool x.xX] 31)=W at hA X zX c9 HA ⊢;go_loopw [5] (fun i wr=>∃j:Nat,j<=nd/\i=.int .i64 j/\(∀i e',i<j->ds[i]?=some e'->¬e'.1=s)/\wr=W) (fun i _=>nd-(intOf i).toNat)
 case atStart=>exact ⟨0,Nat.zero_le _,rfl,fun i _ h=>absurd h (by omega),rfl⟩
 obtain ⟨j,hj,rfl,hb,hw⟩:=hrel;subst hw;by_cases hjn:j<nd
 . rcases cW rfl (h1.below hA) with h0|⟨b,off,rfl,hbl,hcs⟩
   . omega
   have hdj:ds[j]?=some (ds[j]'(by omega)):=List.getElem?_eq_getElem (by omega);generalize ds[j]'(by omega)=d at hdj;obtain ⟨u0,u1,hv0,hv1,hrv⟩:=hcs j d hdj;obtain ⟨rfl,_⟩:=eL hrv;have k1:(0:Int)<=(j:Int):=by omega
   have k2:(j:Int)<(nd:Int):=by omega
   have HBB:=aa hb;have HDJ:=aa hdj;obtain ⟨y,ys⟩:=d;simp only at hv0
   clear hcs hrv hv1 hb hdj;by_cases he:y=s
   . have HV:=aa (qA (s:=s) HDJ.out he HBB.out)
     have e1:(y==s)=true:=by simpa using he
     clear he;go_wp2
     go_ret
     exact ⟨aF HV.out.symm,HA.out⟩
   have e1:(y==s)=false:=by simpa using he
   have HN:Hid (∀i e',i<j+1->ds[i]?=some e'->¬e'.1=s):=fun i e' hi h'=>by
    by_cases hij:i=j
    . subst hij
      rw [HDJ.out] at h';simp at h'
      rw [←h'];exact he
    exact HBB.out i e' (by omega) h'
   clear he;go_wp2
   go_roundw
   case rel=>exact ⟨j+1,by omega,by go_num,HN.out,by first|rfl|trivial⟩
   case measure=>simp [intOf];omega
 have ej:j=nd:=by omega
 subst ej;have HV:=aa (rH (s:=s) (fun i e' h h'=>hb i e' (by omega) h'));have k2:¬(j:Int)<(j:Int):=by omega
 go_wp2
 go_ret
 exact ⟨aF HV.out.symm,HA.out⟩
end Go.Proofs.YtgjomldcnjjpaaaGreat
