/-
 The walk of the laws' mark over an array: its disks and stripes are marked in place. Condition: it weighs at most 2097152.
-/
import Derived.Test.YtfimpohbpccjaaaRowWordsSq10
import Derived.Test.YtfimpohbpccjaaaRowWordsSq5
import Derived.Test.YtfimpohbpccjaaaRowWordsSq3
import Derived.Test.YtfimpohbpccjaaaRowWordsSq11

set_option maxRecDepth 100000
set_option maxHeartbeats 8000000
set_option linter.unusedSimpArgs false

namespace Go.Proofs.Ytfimpohbpccjaaa
open Go.RowKit

def dF {α:Type} (p:Nat->α->Bool) (l:List α):Bool:=(List.range l.length).all fun i=>(l[i]?.map (p i)).getD true
theorem cO {α:Type} {p:Nat->α->Bool} {l:List α}:dF p l=true ↔ ∀(i:Nat) (x:α),l[i]?=some x->p i x=true:=by
 unfold dF;rw [List.all_eq_true];constructor
 . intro h i x hx
   have:=h i (by rw [List.mem_range];exact (List.getElem?_eq_some_iff.1 hx).1);rw [hx] at this;simpa using this
 intro h i hi;cases hx:l[i]? with
 | none=>rfl
 | some x=>simpa using h i x hx
theorem cz {α:Type} {p:Nat->α->Bool} {l:List α} {i:Nat} {x:α} (hx:l[i]?=some x) (h:p i x=false):dF p l=false:=by
 cases hb:dF p l with
 | false=>rfl
 | true=>rw [cO.1 hb i x hx] at h;cases h
def bw (x:aF) (i:Nat) (m:aD):Bool:=bJ m.1 m.2.1 m.2.2.2&&(decide ((m.1.length:Int)=6+x.s)&&(!m.2.2.1||(decide ((i:Int)=x.lost)||x.im)))
def bn (x:aF) (ms:List aD):Bool:=dF (bw x) ms&&decide ((ms.length:Int)=x.n)
def bG (x:aF) (ds:List (Int×List Int)) (i:Nat) (e:Int×List Int):Bool:=inB e.1 0 (x.s-1)&&(decide ((e.2.length:Int)=x.n-1)&&(cW e.2&&(decide (i=0)||decide ((ds.getD (i-1) (0,[])).1<e.1))))
def dc (x:aF) (ds:List (Int×List Int)):Bool:=dF (bG x ds) ds
def cA (x:aF):Bool:=inB x.lost (-1) (x.n-1)&&(inB x.il 0 x.s&&(!decide (x.lost=-1)||decide (x.il=0)))
def cB (x:aF):Bool:=inB x.tail 0 60000&&(inB x.seq x.tail 60000&&(decide (x.seq<=x.tail+4)&&(inB x.gen 0 60000&&inB x.io (-1) 1000)))
def aX (x:aF) (ms:List aD) (ds:List (Int×List Int)):Bool:=cp x.n x.s&&(inB x.id 1 60000&&(bn x ms&&(dc x ds&&(cA x&&cB x))))
theorem cC (w:World) (n s:Int) (hs:1<=s/\s<=8):Calls Try.prog 84 #[.agg #[.int .i64 n,.int .i64 s]] w fun e w'=>e=.returned (.int .i64 (6+s))/\Below w.heap.size w w':=by
 have hA:=ai w (.cells #[.int .i64 n,.int .i64 s] 30);obtain ⟨k0,k1⟩:=(cL.new w 30 n s).cells;have hw:IntKind.i64.wrap (6+s)=6+s:=IntWalk.i64_in _ (by omega);go_enter Try.func84,Try.ntmps84
 go_wp2
 go_ret
 exact ⟨rfl,hA⟩
theorem fK (w:World) (E F:TypeId) (x:aF) (am ad:Option Addr) (nm cm nd cd:Nat) (ms:List aD) (h0:(aY E F).Rd w [.slice am nm cm] ms) (hw:az ms<=2097152) (hg:cp x.n x.s=true):
 Calls Try.prog 58 #[.agg #[.int .i64 x.id,.int .i64 x.n,.int .i64 x.s,.slice am nm cm,.int .i64 x.lost,.int .i64 x.il,.int .i64 x.seq,.int .i64 x.tail,.int .i64 x.gen,.slice ad nd cd,.int .i64 x.io,.bool x.down,.bool x.im]] w fun e w'=>e=.returned (.bool (bn x ms))/\Below w.heap.size w w':=by
 obtain ⟨hl,hc,hm⟩:=af h0;obtain ⟨g1,g2,g3,g4⟩:=aW.1 hg;have hA:=ai w (.cells #[.int .i64 x.id,.int .i64 x.n,.int .i64 x.s,.slice am nm cm,.int .i64 x.lost,.int .i64 x.il,.int .i64 x.seq,.int .i64 x.tail,.int .i64 x.gen,.slice ad nd cd,.int .i64 x.io,.bool x.down,.bool x.im] 34);have X:=Box.new w 34 #[.int .i64 x.id,.int .i64 x.n,.int .i64 x.s,.slice am nm cm,.int .i64 x.lost,.int .i64 x.il,.int .i64 x.seq,.int .i64 x.tail,.int .i64 x.gen,.slice ad nd cd,.int .i64 x.io,.bool x.down,.bool x.im];have zA:=X.lt;have hnm:nm<=2097152:=by unfold az at hw;omega
 have h1:=h0.below hA;go_enter Try.func58,Try.ntmps58
 go_wp2
 generalize w.alloc (.cells #[.int .i64 x.id,.int .i64 x.n,.int .i64 x.s,.slice am nm cm,.int .i64 x.lost,.int .i64 x.il,.int .i64 x.seq,.int .i64 x.tail,.int .i64 x.gen,.slice ad nd cd,.int .i64 x.io,.bool x.down,.bool x.im] 34)=W at hA X zA h1 ⊢;go_loopw [3] (fun i wr=>∃j:Nat,j<=nm/\i=.int .i64 j/\(∀(q:Nat) (m:aD),q<j->ms[q]?=some m->bw x q m=true)/\Below W.heap.size W wr) (fun i _=>nm-(intOf i).toNat)
 case atStart=>exact ⟨0,Nat.zero_le _,rfl,fun q m hq=>by omega,Below.refl _ _⟩
 obtain ⟨j,hj,rfl,hall,hb⟩:=hrel;have Xr:=X.below hb zA;obtain ⟨k0,k1,k2,k3,k4,k5,k6,k7,k8,k9,k10,k11,k12⟩:=Xr.cells13;by_cases hjn:j<nm
 . rcases bH rfl h1 with h0'|⟨b,off,rfl,hbl,hcs⟩
   . omega
   have hdj:ms[j]?=some (ms[j]'(by omega)):=List.getElem?_eq_getElem (by omega);generalize ms[j]'(by omega)=m at hdj;obtain ⟨v0,v1,v2,v3,hv0,hv1,hv2,hv3,hrv⟩:=hcs j m hdj;obtain ⟨a0,c0,a1,c1,a3,c3,ss,cs,f,bs,rfl,rfl,rfl,rfl,rfl,r0,r1,r3⟩:=cV hrv;have u0:=(hb.cell (p:=⟨b,off+j*4,none⟩) hbl).trans hv0;have u1:=(hb.cell (p:=⟨b,off+j*4+1,none⟩) hbl).trans hv1;have u2:=(hb.cell (p:=⟨b,off+j*4+2,none⟩) hbl).trans hv2;have u3:=(hb.cell (p:=⟨b,off+j*4+3,none⟩) hbl).trans hv3;have i1:(0:Int)<=(j:Int):=by omega
   have i2:(j:Int)<(nm:Int):=by omega
   have hwm:=Nat.le_trans (bM hdj) hw;have HDJ:=ab hdj;clear hcs hv0 hv1 hv2 hv3 hrv hdj;have b1:=ai wr (.cells #[.slice a0 ss.length c0,.slice a1 cs.length c1,.bool f,.slice a3 bs.length c3] 54);have Y1:=Box.new wr 54 #[.slice a0 ss.length c0,.slice a1 cs.length c1,.bool f,.slice a3 bs.length c3];have X1:=Xr.below b1 Xr.lt;have R0:=(r0.below hb).below b1;have R1:=(r1.below hb).below b1;have R3:=(r3.below hb).below b1;have B1:=hb.trans (b1.mono hb.size);clear r0 r1 r3 b1;obtain ⟨y0,y1,y2,y3⟩:=Y1.cells4;obtain ⟨e0,e1,e2,e3,e4,e5,e6,e7,e8,e9,e10,e11,e12⟩:=X1.cells13;have zy:=Y1.lt;have zx:=X1.lt;clear e0 e3 e5 e6 e7 e8 e9 e10 e11;cases hM:bJ ss cs bs
   . skip
     go_wp2_with fail
     generalize wr.alloc (.cells #[.slice a0 ss.length c0,.slice a1 cs.length c1,.bool f,.slice a3 bs.length c3] 54)=w1 at X1 Y1 R0 R1 R3 B1 y0 y1 y2 y3 e1 e2 e4 e12 zy zx ⊢;refine wp_region_held_drew (S:=fun w'=>w'.cell? ⟨wr.heap.size,0,none⟩=some (.slice a0 ss.length c0)/\w'.cell? ⟨wr.heap.size,1,none⟩=some (.slice a1 cs.length c1)/\w'.cell? ⟨wr.heap.size,2,none⟩=some (.bool f)/\w'.cell? ⟨wr.heap.size,3,none⟩=some (.slice a3 bs.length c3)/\w'.cell? ⟨w.heap.size,1,none⟩=some (.int .i64 x.n)/\w'.cell? ⟨w.heap.size,2,none⟩=some (.int .i64 x.s)/\w'.cell? ⟨w.heap.size,4,none⟩=some (.int .i64 x.lost)/\w'.cell? ⟨w.heap.size,12,none⟩=some (.bool x.im)) (by kernel_rfl) ?_ (fun ik=>?_)
     . exact ⟨y0,y1,y2,y3,e1,e2,e4,e12⟩
     refine aa 0 ik ?_
     refine ag (i:=1) (by kernel_rfl) rfl (by kernel_rfl) (fun K hK=>?_)
     go_simp
     refine (aJ _ E _ _ _ _ _ _ _ _ _ ss cs f bs R0.drew R1.drew R3.drew hwm).mono ?_
     rintro e w2 ⟨rfl,b2⟩;rw [hM];have b2':Below w1.heap.size w1 w2:=(Below.refl w1.heap.size w1).drew.trans b2;clear b2;go_wp2_with fail
     clear ik;refine hK.out _ _ ?_ (fun ik=>?_)
     . exact ⟨(b2'.cell (p:=⟨wr.heap.size,0,none⟩) zy).trans y0,(b2'.cell (p:=⟨wr.heap.size,1,none⟩) zy).trans y1,(b2'.cell (p:=⟨wr.heap.size,2,none⟩) zy).trans y2,(b2'.cell (p:=⟨wr.heap.size,3,none⟩) zy).trans y3,(b2'.cell (p:=⟨w.heap.size,1,none⟩) zx).trans e1,(b2'.cell (p:=⟨w.heap.size,2,none⟩) zx).trans e2,(b2'.cell (p:=⟨w.heap.size,4,none⟩) zx).trans e4,(b2'.cell (p:=⟨w.heap.size,12,none⟩) zx).trans e12⟩
     clear hK K;refine aa 2 ik ?_
     refine aa 3 ik ?_
     refine ae 4 ik ?_
     refine ae 5 ik ?_
     refine ae 6 ik ?_
     refine ae 7 ik ?_
     refine ae 8 ik ?_
     refine cr (i:=9) (by kernel_rfl) rfl (by kernel_rfl) ik ?_
     simp only [Act.put,List.setIfInBounds_toArray,List.set_cons_zero,List.set_cons_succ]
     refine ae 10 ik ?_
     refine aa 11 ik ?_
     refine aa 12 ik ?_
     refine ae 13 ik ?_
     refine ae 14 ik ?_
     refine ae 15 ik ?_
     refine ae 16 ik ?_
     refine ae 17 ik ?_
     refine ae 18 ik ?_
     refine ae 19 ik ?_
     refine ae 20 ik ?_
     refine ae 21 ik ?_
     refine ae 22 ik ?_
     refine ae 23 ik ?_
     refine ae 24 ik ?_
     refine ae 25 ik ?_
     refine aa 26 ik ?_
     refine wpAnyH_done (by kernel_rfl) ?_ _
     clear ik;have HB:=ab (hA.trans ((B1.trans (b2'.mono B1.size)).mono hA.size));go_wp2
     go_ret
     exact ⟨ac (by rw [show bn x ms=false from (by unfold bn;rw [cz HDJ.out (by unfold bw;simp [hM])];rfl)]),HB.out⟩
   by_cases hS:(ss.length:Int)=6+x.s
   . have hS1:((ss.length:Int)==6+x.s)=true:=by simpa using hS
     have hS2:((ss.length:Int) !=6+x.s)=false:=by simpa using hS
     have HS:=ab hS;clear hS;cases f
     . skip
       go_wp2_with fail
       generalize wr.alloc (.cells #[.slice a0 ss.length c0,.slice a1 cs.length c1,.bool false,.slice a3 bs.length c3] 54)=w1 at X1 Y1 R0 R1 R3 B1 y0 y1 y2 y3 e1 e2 e4 e12 zy zx ⊢;refine wp_region_held_drew (S:=fun w'=>w'.cell? ⟨wr.heap.size,0,none⟩=some (.slice a0 ss.length c0)/\w'.cell? ⟨wr.heap.size,1,none⟩=some (.slice a1 cs.length c1)/\w'.cell? ⟨wr.heap.size,2,none⟩=some (.bool false)/\w'.cell? ⟨wr.heap.size,3,none⟩=some (.slice a3 bs.length c3)/\w'.cell? ⟨w.heap.size,1,none⟩=some (.int .i64 x.n)/\w'.cell? ⟨w.heap.size,2,none⟩=some (.int .i64 x.s)/\w'.cell? ⟨w.heap.size,4,none⟩=some (.int .i64 x.lost)/\w'.cell? ⟨w.heap.size,12,none⟩=some (.bool x.im)) (by kernel_rfl) ?_ (fun ik=>?_)
       . exact ⟨y0,y1,y2,y3,e1,e2,e4,e12⟩
       refine aa 0 ik ?_
       refine ag (i:=1) (by kernel_rfl) rfl (by kernel_rfl) (fun K hK=>?_)
       go_simp
       refine (aJ _ E _ _ _ _ _ _ _ _ _ ss cs false bs R0.drew R1.drew R3.drew hwm).mono ?_
       rintro e w2 ⟨rfl,b2⟩;rw [hM];have b2':Below w1.heap.size w1 w2:=(Below.refl w1.heap.size w1).drew.trans b2;clear b2;go_wp2_with fail
       clear ik;refine hK.out _ _ ?_ (fun ik=>?_)
       . exact ⟨(b2'.cell (p:=⟨wr.heap.size,0,none⟩) zy).trans y0,(b2'.cell (p:=⟨wr.heap.size,1,none⟩) zy).trans y1,(b2'.cell (p:=⟨wr.heap.size,2,none⟩) zy).trans y2,(b2'.cell (p:=⟨wr.heap.size,3,none⟩) zy).trans y3,(b2'.cell (p:=⟨w.heap.size,1,none⟩) zx).trans e1,(b2'.cell (p:=⟨w.heap.size,2,none⟩) zx).trans e2,(b2'.cell (p:=⟨w.heap.size,4,none⟩) zx).trans e4,(b2'.cell (p:=⟨w.heap.size,12,none⟩) zx).trans e12⟩
       clear hK K;refine aa 2 ik ?_
       refine aa 3 ik ?_
       refine aa 4 ik ?_
       refine aa 5 ik ?_
       refine aa 6 ik ?_
       refine aa 7 ik ?_
       refine aa 8 ik ?_
       refine ag (i:=9) (by kernel_rfl) rfl (by kernel_rfl) (fun K hK=>?_)
       go_simp
       refine (cC _ x.n x.s ⟨g3,g4⟩).mono ?_
       rintro e w3 ⟨rfl,b3⟩;have b3':Below w1.heap.size w1 w3:=Below.andThen b2' b3;clear b3;go_wp2_with fail
       clear ik;refine hK.out _ _ ?_ (fun ik=>?_)
       . exact ⟨(b3'.cell (p:=⟨wr.heap.size,0,none⟩) zy).trans y0,(b3'.cell (p:=⟨wr.heap.size,1,none⟩) zy).trans y1,(b3'.cell (p:=⟨wr.heap.size,2,none⟩) zy).trans y2,(b3'.cell (p:=⟨wr.heap.size,3,none⟩) zy).trans y3,(b3'.cell (p:=⟨w.heap.size,1,none⟩) zx).trans e1,(b3'.cell (p:=⟨w.heap.size,2,none⟩) zx).trans e2,(b3'.cell (p:=⟨w.heap.size,4,none⟩) zx).trans e4,(b3'.cell (p:=⟨w.heap.size,12,none⟩) zx).trans e12⟩
       clear hK K;refine aa 10 ik ?_
       refine aa 11 ik ?_
       refine aa 12 ik ?_
       refine aa 13 ik ?_
       refine aa 14 ik ?_
       refine aa 15 ik ?_
       refine ae 16 ik ?_
       refine ae 17 ik ?_
       refine ae 18 ik ?_
       refine ae 19 ik ?_
       refine aa 20 ik ?_
       refine aa 21 ik ?_
       refine ae 22 ik ?_
       refine ae 23 ik ?_
       refine ae 24 ik ?_
       refine aa 25 ik ?_
       refine aa 26 ik ?_
       refine wpAnyH_done (by kernel_rfl) ?_ _
       clear ik;have HB:=ab (B1.trans (b3'.mono B1.size));have hat:bw x j (ss,cs,false,bs)=true:=(by unfold bw;simp [hM,HS.out]);go_wp2
       go_roundw
       case rel=>exact ⟨j+1,by omega,by go_num,fun q m hq hm'=>by
        rcases Nat.lt_or_ge q j with h|h
        . exact hall q m h hm'
        obtain rfl:q=j:=by omega
        rw [HDJ.out] at hm';cases hm';exact hat,HB.out⟩
       case measure=>simp [intOf];omega
     by_cases hL:(j:Int)=x.lost
     . have hL1:((j:Int)==x.lost)=true:=by simpa using hL
       have hL2:((j:Int) !=x.lost)=false:=by simpa using hL
       have HL:=ab hL;clear hL;go_wp2_with fail
       generalize wr.alloc (.cells #[.slice a0 ss.length c0,.slice a1 cs.length c1,.bool true,.slice a3 bs.length c3] 54)=w1 at X1 Y1 R0 R1 R3 B1 y0 y1 y2 y3 e1 e2 e4 e12 zy zx ⊢;refine wp_region_held_drew (S:=fun w'=>w'.cell? ⟨wr.heap.size,0,none⟩=some (.slice a0 ss.length c0)/\w'.cell? ⟨wr.heap.size,1,none⟩=some (.slice a1 cs.length c1)/\w'.cell? ⟨wr.heap.size,2,none⟩=some (.bool true)/\w'.cell? ⟨wr.heap.size,3,none⟩=some (.slice a3 bs.length c3)/\w'.cell? ⟨w.heap.size,1,none⟩=some (.int .i64 x.n)/\w'.cell? ⟨w.heap.size,2,none⟩=some (.int .i64 x.s)/\w'.cell? ⟨w.heap.size,4,none⟩=some (.int .i64 x.lost)/\w'.cell? ⟨w.heap.size,12,none⟩=some (.bool x.im)) (by kernel_rfl) ?_ (fun ik=>?_)
       . exact ⟨y0,y1,y2,y3,e1,e2,e4,e12⟩
       refine aa 0 ik ?_
       refine ag (i:=1) (by kernel_rfl) rfl (by kernel_rfl) (fun K hK=>?_)
       go_simp
       refine (aJ _ E _ _ _ _ _ _ _ _ _ ss cs true bs R0.drew R1.drew R3.drew hwm).mono ?_
       rintro e w2 ⟨rfl,b2⟩;rw [hM];have b2':Below w1.heap.size w1 w2:=(Below.refl w1.heap.size w1).drew.trans b2;clear b2;go_wp2_with fail
       clear ik;refine hK.out _ _ ?_ (fun ik=>?_)
       . exact ⟨(b2'.cell (p:=⟨wr.heap.size,0,none⟩) zy).trans y0,(b2'.cell (p:=⟨wr.heap.size,1,none⟩) zy).trans y1,(b2'.cell (p:=⟨wr.heap.size,2,none⟩) zy).trans y2,(b2'.cell (p:=⟨wr.heap.size,3,none⟩) zy).trans y3,(b2'.cell (p:=⟨w.heap.size,1,none⟩) zx).trans e1,(b2'.cell (p:=⟨w.heap.size,2,none⟩) zx).trans e2,(b2'.cell (p:=⟨w.heap.size,4,none⟩) zx).trans e4,(b2'.cell (p:=⟨w.heap.size,12,none⟩) zx).trans e12⟩
       clear hK K;refine aa 2 ik ?_
       refine aa 3 ik ?_
       refine aa 4 ik ?_
       refine aa 5 ik ?_
       refine aa 6 ik ?_
       refine aa 7 ik ?_
       refine aa 8 ik ?_
       refine ag (i:=9) (by kernel_rfl) rfl (by kernel_rfl) (fun K hK=>?_)
       go_simp
       refine (cC _ x.n x.s ⟨g3,g4⟩).mono ?_
       rintro e w3 ⟨rfl,b3⟩;have b3':Below w1.heap.size w1 w3:=Below.andThen b2' b3;clear b3;go_wp2_with fail
       clear ik;refine hK.out _ _ ?_ (fun ik=>?_)
       . exact ⟨(b3'.cell (p:=⟨wr.heap.size,0,none⟩) zy).trans y0,(b3'.cell (p:=⟨wr.heap.size,1,none⟩) zy).trans y1,(b3'.cell (p:=⟨wr.heap.size,2,none⟩) zy).trans y2,(b3'.cell (p:=⟨wr.heap.size,3,none⟩) zy).trans y3,(b3'.cell (p:=⟨w.heap.size,1,none⟩) zx).trans e1,(b3'.cell (p:=⟨w.heap.size,2,none⟩) zx).trans e2,(b3'.cell (p:=⟨w.heap.size,4,none⟩) zx).trans e4,(b3'.cell (p:=⟨w.heap.size,12,none⟩) zx).trans e12⟩
       clear hK K;refine aa 10 ik ?_
       refine aa 11 ik ?_
       refine aa 12 ik ?_
       refine aa 13 ik ?_
       refine aa 14 ik ?_
       refine aa 15 ik ?_
       refine aa 16 ik ?_
       refine aa 17 ik ?_
       refine aa 18 ik ?_
       refine aa 19 ik ?_
       refine aa 20 ik ?_
       refine aa 21 ik ?_
       refine ae 22 ik ?_
       refine ae 23 ik ?_
       refine ae 24 ik ?_
       refine aa 25 ik ?_
       refine aa 26 ik ?_
       refine wpAnyH_done (by kernel_rfl) ?_ _
       clear ik;have HB:=ab (B1.trans (b3'.mono B1.size));have hat:bw x j (ss,cs,true,bs)=true:=(by unfold bw;simp [hM,HS.out,HL.out]);go_wp2
       go_roundw
       case rel=>exact ⟨j+1,by omega,by go_num,fun q m hq hm'=>by
        rcases Nat.lt_or_ge q j with h|h
        . exact hall q m h hm'
        obtain rfl:q=j:=by omega
        rw [HDJ.out] at hm';cases hm';exact hat,HB.out⟩
       case measure=>simp [intOf];omega
     have hL1:((j:Int)==x.lost)=false:=by simpa using hL
     have hL2:((j:Int) !=x.lost)=true:=by simpa using hL
     have HL:=ab hL;clear hL;cases hBr:x.im
     . rw [hBr] at e12
       go_wp2_with fail
       generalize wr.alloc (.cells #[.slice a0 ss.length c0,.slice a1 cs.length c1,.bool true,.slice a3 bs.length c3] 54)=w1 at X1 Y1 R0 R1 R3 B1 y0 y1 y2 y3 e1 e2 e4 e12 zy zx ⊢;refine wp_region_held_drew (S:=fun w'=>w'.cell? ⟨wr.heap.size,0,none⟩=some (.slice a0 ss.length c0)/\w'.cell? ⟨wr.heap.size,1,none⟩=some (.slice a1 cs.length c1)/\w'.cell? ⟨wr.heap.size,2,none⟩=some (.bool true)/\w'.cell? ⟨wr.heap.size,3,none⟩=some (.slice a3 bs.length c3)/\w'.cell? ⟨w.heap.size,1,none⟩=some (.int .i64 x.n)/\w'.cell? ⟨w.heap.size,2,none⟩=some (.int .i64 x.s)/\w'.cell? ⟨w.heap.size,4,none⟩=some (.int .i64 x.lost)/\w'.cell? ⟨w.heap.size,12,none⟩=some (.bool false)) (by kernel_rfl) ?_ (fun ik=>?_)
       . exact ⟨y0,y1,y2,y3,e1,e2,e4,e12⟩
       refine aa 0 ik ?_
       refine ag (i:=1) (by kernel_rfl) rfl (by kernel_rfl) (fun K hK=>?_)
       go_simp
       refine (aJ _ E _ _ _ _ _ _ _ _ _ ss cs true bs R0.drew R1.drew R3.drew hwm).mono ?_
       rintro e w2 ⟨rfl,b2⟩;rw [hM];have b2':Below w1.heap.size w1 w2:=(Below.refl w1.heap.size w1).drew.trans b2;clear b2;go_wp2_with fail
       clear ik;refine hK.out _ _ ?_ (fun ik=>?_)
       . exact ⟨(b2'.cell (p:=⟨wr.heap.size,0,none⟩) zy).trans y0,(b2'.cell (p:=⟨wr.heap.size,1,none⟩) zy).trans y1,(b2'.cell (p:=⟨wr.heap.size,2,none⟩) zy).trans y2,(b2'.cell (p:=⟨wr.heap.size,3,none⟩) zy).trans y3,(b2'.cell (p:=⟨w.heap.size,1,none⟩) zx).trans e1,(b2'.cell (p:=⟨w.heap.size,2,none⟩) zx).trans e2,(b2'.cell (p:=⟨w.heap.size,4,none⟩) zx).trans e4,(b2'.cell (p:=⟨w.heap.size,12,none⟩) zx).trans e12⟩
       clear hK K;refine aa 2 ik ?_
       refine aa 3 ik ?_
       refine aa 4 ik ?_
       refine aa 5 ik ?_
       refine aa 6 ik ?_
       refine aa 7 ik ?_
       refine aa 8 ik ?_
       refine ag (i:=9) (by kernel_rfl) rfl (by kernel_rfl) (fun K hK=>?_)
       go_simp
       refine (cC _ x.n x.s ⟨g3,g4⟩).mono ?_
       rintro e w3 ⟨rfl,b3⟩;have b3':Below w1.heap.size w1 w3:=Below.andThen b2' b3;clear b3;go_wp2_with fail
       clear ik;refine hK.out _ _ ?_ (fun ik=>?_)
       . exact ⟨(b3'.cell (p:=⟨wr.heap.size,0,none⟩) zy).trans y0,(b3'.cell (p:=⟨wr.heap.size,1,none⟩) zy).trans y1,(b3'.cell (p:=⟨wr.heap.size,2,none⟩) zy).trans y2,(b3'.cell (p:=⟨wr.heap.size,3,none⟩) zy).trans y3,(b3'.cell (p:=⟨w.heap.size,1,none⟩) zx).trans e1,(b3'.cell (p:=⟨w.heap.size,2,none⟩) zx).trans e2,(b3'.cell (p:=⟨w.heap.size,4,none⟩) zx).trans e4,(b3'.cell (p:=⟨w.heap.size,12,none⟩) zx).trans e12⟩
       clear hK K;refine aa 10 ik ?_
       refine aa 11 ik ?_
       refine aa 12 ik ?_
       refine aa 13 ik ?_
       refine aa 14 ik ?_
       refine aa 15 ik ?_
       refine aa 16 ik ?_
       refine aa 17 ik ?_
       refine aa 18 ik ?_
       refine aa 19 ik ?_
       refine aa 20 ik ?_
       refine aa 21 ik ?_
       refine aa 22 ik ?_
       refine aa 23 ik ?_
       refine aa 24 ik ?_
       refine aa 25 ik ?_
       refine aa 26 ik ?_
       refine wpAnyH_done (by kernel_rfl) ?_ _
       clear ik;have HB:=ab (hA.trans ((B1.trans (b3'.mono B1.size)).mono hA.size));go_wp2
       go_ret
       exact ⟨ac (by rw [show bn x ms=false from (by unfold bn;rw [cz HDJ.out (by unfold bw;simp [HL.out,hBr])];rfl)]),HB.out⟩
     rw [hBr] at e12;go_wp2_with fail
     generalize wr.alloc (.cells #[.slice a0 ss.length c0,.slice a1 cs.length c1,.bool true,.slice a3 bs.length c3] 54)=w1 at X1 Y1 R0 R1 R3 B1 y0 y1 y2 y3 e1 e2 e4 e12 zy zx ⊢;refine wp_region_held_drew (S:=fun w'=>w'.cell? ⟨wr.heap.size,0,none⟩=some (.slice a0 ss.length c0)/\w'.cell? ⟨wr.heap.size,1,none⟩=some (.slice a1 cs.length c1)/\w'.cell? ⟨wr.heap.size,2,none⟩=some (.bool true)/\w'.cell? ⟨wr.heap.size,3,none⟩=some (.slice a3 bs.length c3)/\w'.cell? ⟨w.heap.size,1,none⟩=some (.int .i64 x.n)/\w'.cell? ⟨w.heap.size,2,none⟩=some (.int .i64 x.s)/\w'.cell? ⟨w.heap.size,4,none⟩=some (.int .i64 x.lost)/\w'.cell? ⟨w.heap.size,12,none⟩=some (.bool true)) (by kernel_rfl) ?_ (fun ik=>?_)
     . exact ⟨y0,y1,y2,y3,e1,e2,e4,e12⟩
     refine aa 0 ik ?_
     refine ag (i:=1) (by kernel_rfl) rfl (by kernel_rfl) (fun K hK=>?_)
     go_simp
     refine (aJ _ E _ _ _ _ _ _ _ _ _ ss cs true bs R0.drew R1.drew R3.drew hwm).mono ?_
     rintro e w2 ⟨rfl,b2⟩;rw [hM];have b2':Below w1.heap.size w1 w2:=(Below.refl w1.heap.size w1).drew.trans b2;clear b2;go_wp2_with fail
     clear ik;refine hK.out _ _ ?_ (fun ik=>?_)
     . exact ⟨(b2'.cell (p:=⟨wr.heap.size,0,none⟩) zy).trans y0,(b2'.cell (p:=⟨wr.heap.size,1,none⟩) zy).trans y1,(b2'.cell (p:=⟨wr.heap.size,2,none⟩) zy).trans y2,(b2'.cell (p:=⟨wr.heap.size,3,none⟩) zy).trans y3,(b2'.cell (p:=⟨w.heap.size,1,none⟩) zx).trans e1,(b2'.cell (p:=⟨w.heap.size,2,none⟩) zx).trans e2,(b2'.cell (p:=⟨w.heap.size,4,none⟩) zx).trans e4,(b2'.cell (p:=⟨w.heap.size,12,none⟩) zx).trans e12⟩
     clear hK K;refine aa 2 ik ?_
     refine aa 3 ik ?_
     refine aa 4 ik ?_
     refine aa 5 ik ?_
     refine aa 6 ik ?_
     refine aa 7 ik ?_
     refine aa 8 ik ?_
     refine ag (i:=9) (by kernel_rfl) rfl (by kernel_rfl) (fun K hK=>?_)
     go_simp
     refine (cC _ x.n x.s ⟨g3,g4⟩).mono ?_
     rintro e w3 ⟨rfl,b3⟩;have b3':Below w1.heap.size w1 w3:=Below.andThen b2' b3;clear b3;go_wp2_with fail
     clear ik;refine hK.out _ _ ?_ (fun ik=>?_)
     . exact ⟨(b3'.cell (p:=⟨wr.heap.size,0,none⟩) zy).trans y0,(b3'.cell (p:=⟨wr.heap.size,1,none⟩) zy).trans y1,(b3'.cell (p:=⟨wr.heap.size,2,none⟩) zy).trans y2,(b3'.cell (p:=⟨wr.heap.size,3,none⟩) zy).trans y3,(b3'.cell (p:=⟨w.heap.size,1,none⟩) zx).trans e1,(b3'.cell (p:=⟨w.heap.size,2,none⟩) zx).trans e2,(b3'.cell (p:=⟨w.heap.size,4,none⟩) zx).trans e4,(b3'.cell (p:=⟨w.heap.size,12,none⟩) zx).trans e12⟩
     clear hK K;refine aa 10 ik ?_
     refine aa 11 ik ?_
     refine aa 12 ik ?_
     refine aa 13 ik ?_
     refine aa 14 ik ?_
     refine aa 15 ik ?_
     refine aa 16 ik ?_
     refine aa 17 ik ?_
     refine aa 18 ik ?_
     refine aa 19 ik ?_
     refine aa 20 ik ?_
     refine aa 21 ik ?_
     refine aa 22 ik ?_
     refine aa 23 ik ?_
     refine aa 24 ik ?_
     refine aa 25 ik ?_
     refine aa 26 ik ?_
     refine wpAnyH_done (by kernel_rfl) ?_ _
     clear ik;have HB:=ab (B1.trans (b3'.mono B1.size));have hat:bw x j (ss,cs,true,bs)=true:=(by unfold bw;simp [hM,HS.out,hBr]);go_wp2
     go_roundw
     case rel=>exact ⟨j+1,by omega,by go_num,fun q m hq hm'=>by
      rcases Nat.lt_or_ge q j with h|h
      . exact hall q m h hm'
      obtain rfl:q=j:=by omega
      rw [HDJ.out] at hm';cases hm';exact hat,HB.out⟩
     case measure=>simp [intOf];omega
   have hS1:((ss.length:Int)==6+x.s)=false:=by simpa using hS
   have hS2:((ss.length:Int) !=6+x.s)=true:=by simpa using hS
   have HS:=ab hS;clear hS;go_wp2_with fail
   generalize wr.alloc (.cells #[.slice a0 ss.length c0,.slice a1 cs.length c1,.bool f,.slice a3 bs.length c3] 54)=w1 at X1 Y1 R0 R1 R3 B1 y0 y1 y2 y3 e1 e2 e4 e12 zy zx ⊢;refine wp_region_held_drew (S:=fun w'=>w'.cell? ⟨wr.heap.size,0,none⟩=some (.slice a0 ss.length c0)/\w'.cell? ⟨wr.heap.size,1,none⟩=some (.slice a1 cs.length c1)/\w'.cell? ⟨wr.heap.size,2,none⟩=some (.bool f)/\w'.cell? ⟨wr.heap.size,3,none⟩=some (.slice a3 bs.length c3)/\w'.cell? ⟨w.heap.size,1,none⟩=some (.int .i64 x.n)/\w'.cell? ⟨w.heap.size,2,none⟩=some (.int .i64 x.s)/\w'.cell? ⟨w.heap.size,4,none⟩=some (.int .i64 x.lost)/\w'.cell? ⟨w.heap.size,12,none⟩=some (.bool x.im)) (by kernel_rfl) ?_ (fun ik=>?_)
   . exact ⟨y0,y1,y2,y3,e1,e2,e4,e12⟩
   refine aa 0 ik ?_
   refine ag (i:=1) (by kernel_rfl) rfl (by kernel_rfl) (fun K hK=>?_)
   go_simp
   refine (aJ _ E _ _ _ _ _ _ _ _ _ ss cs f bs R0.drew R1.drew R3.drew hwm).mono ?_
   rintro e w2 ⟨rfl,b2⟩;rw [hM];have b2':Below w1.heap.size w1 w2:=(Below.refl w1.heap.size w1).drew.trans b2;clear b2;go_wp2_with fail
   clear ik;refine hK.out _ _ ?_ (fun ik=>?_)
   . exact ⟨(b2'.cell (p:=⟨wr.heap.size,0,none⟩) zy).trans y0,(b2'.cell (p:=⟨wr.heap.size,1,none⟩) zy).trans y1,(b2'.cell (p:=⟨wr.heap.size,2,none⟩) zy).trans y2,(b2'.cell (p:=⟨wr.heap.size,3,none⟩) zy).trans y3,(b2'.cell (p:=⟨w.heap.size,1,none⟩) zx).trans e1,(b2'.cell (p:=⟨w.heap.size,2,none⟩) zx).trans e2,(b2'.cell (p:=⟨w.heap.size,4,none⟩) zx).trans e4,(b2'.cell (p:=⟨w.heap.size,12,none⟩) zx).trans e12⟩
   clear hK K;refine aa 2 ik ?_
   refine aa 3 ik ?_
   refine aa 4 ik ?_
   refine aa 5 ik ?_
   refine aa 6 ik ?_
   refine aa 7 ik ?_
   refine aa 8 ik ?_
   refine ag (i:=9) (by kernel_rfl) rfl (by kernel_rfl) (fun K hK=>?_)
   go_simp
   refine (cC _ x.n x.s ⟨g3,g4⟩).mono ?_
   rintro e w3 ⟨rfl,b3⟩;have b3':Below w1.heap.size w1 w3:=Below.andThen b2' b3;clear b3;go_wp2_with fail
   clear ik;refine hK.out _ _ ?_ (fun ik=>?_)
   . exact ⟨(b3'.cell (p:=⟨wr.heap.size,0,none⟩) zy).trans y0,(b3'.cell (p:=⟨wr.heap.size,1,none⟩) zy).trans y1,(b3'.cell (p:=⟨wr.heap.size,2,none⟩) zy).trans y2,(b3'.cell (p:=⟨wr.heap.size,3,none⟩) zy).trans y3,(b3'.cell (p:=⟨w.heap.size,1,none⟩) zx).trans e1,(b3'.cell (p:=⟨w.heap.size,2,none⟩) zx).trans e2,(b3'.cell (p:=⟨w.heap.size,4,none⟩) zx).trans e4,(b3'.cell (p:=⟨w.heap.size,12,none⟩) zx).trans e12⟩
   clear hK K;refine aa 10 ik ?_
   refine aa 11 ik ?_
   refine aa 12 ik ?_
   refine ae 13 ik ?_
   refine ae 14 ik ?_
   refine ae 15 ik ?_
   refine ae 16 ik ?_
   refine ae 17 ik ?_
   refine ae 18 ik ?_
   refine ae 19 ik ?_
   refine ae 20 ik ?_
   refine ae 21 ik ?_
   refine ae 22 ik ?_
   refine ae 23 ik ?_
   refine ae 24 ik ?_
   refine ae 25 ik ?_
   refine aa 26 ik ?_
   refine wpAnyH_done (by kernel_rfl) ?_ _
   clear ik;have HB:=ab (hA.trans ((B1.trans (b3'.mono B1.size)).mono hA.size));go_wp2
   go_ret
   exact ⟨ac (by rw [show bn x ms=false from (by unfold bn;rw [cz HDJ.out (by unfold bw;simp [HS.out])];rfl)]),HB.out⟩
 have e:j=nm:=by omega
 subst e;have hAll:dF (bw x) ms=true:=cO.2 (fun q m hq=>hall q m (by have:=(List.getElem?_eq_some_iff.1 hq).1;omega) hq);have HB:=ab (hA.trans (hb.mono hA.size));have hR:bn x ms=((j:Int)==x.n):=by unfold bn;rw [hAll,hl];simp [BEq.beq]
 go_wp2
 go_ret
 exact ⟨ac hR.symm,HB.out⟩
theorem fh (w:World) (lo m hi:Nat) (x:aF) (bm bd:Option Addr) (nm cm nd cd:Nat) (ms:List aD) (ds:List (Int×List Int)) (h0:(aY 114 54).Own w lo m [.slice bm nm cm] ms) (h1:(aP 83).Own w m hi [.slice bd nd cd] ds) (hlm:lo<=m) (hmh:m<=hi) (hhi:hi<=w.heap.size) (hw:bc ms ds<=2097152):
 Calls Try.prog 16 #[.agg #[.int .i64 x.id,.int .i64 x.n,.int .i64 x.s,.slice bm nm cm,.int .i64 x.lost,.int .i64 x.il,.int .i64 x.seq,.int .i64 x.tail,.int .i64 x.gen,.slice bd nd cd,.int .i64 x.io,.bool x.down,.bool x.im],.int .i64 1] w fun e w'=>e=.returned (.int .i64 (1+(dA ms:Int)+(bF ds:Int)))/\(aY 114 54).Own w' lo m [.slice bm nm cm] (ee 1 ms)/\(aP 83).Own w' m hi [.slice bd nd cd] (di (1+(dA ms:Int)) ds)/\But lo hi w w':=by
 have hw0:az ms<=2097152:=by unfold bc at hw;omega
 have hw1:aq ds<=2097152:=by unfold bc at hw;omega
 have hcm:=fe ms;have hA:=ai w (.cells #[.int .i64 x.id,.int .i64 x.n,.int .i64 x.s,.slice bm nm cm,.int .i64 x.lost,.int .i64 x.il,.int .i64 x.seq,.int .i64 x.tail,.int .i64 x.gen,.slice bd nd cd,.int .i64 x.io,.bool x.down,.bool x.im] 34);have A:=Box.new w 34 #[.int .i64 x.id,.int .i64 x.n,.int .i64 x.s,.slice bm nm cm,.int .i64 x.lost,.int .i64 x.il,.int .i64 x.seq,.int .i64 x.tail,.int .i64 x.gen,.slice bd nd cd,.int .i64 x.io,.bool x.down,.bool x.im];obtain ⟨k0,k1,k2,k3,k4,k5,k6,k7,k8,k9,k10,k11,k12⟩:=A.cells13;have o0:=h0.below hA;have o1:=h1.below hA;have zA:=A.lt;go_enter Try.func16,Try.ntmps16
 go_wp2_with fail
 generalize w.alloc (.cells #[.int .i64 x.id,.int .i64 x.n,.int .i64 x.s,.slice bm nm cm,.int .i64 x.lost,.int .i64 x.il,.int .i64 x.seq,.int .i64 x.tail,.int .i64 x.gen,.slice bd nd cd,.int .i64 x.io,.bool x.down,.bool x.im] 34)=W at hA A o0 o1 zA k0 k1 k2 k3 k4 k5 k6 k7 k8 k9 k10 k11 k12 ⊢;obtain ⟨f0,m0,r0⟩:=o0.mine;refine (fg _ _ _ _ ms 1 f0 m0 hw0 (by omega) (by omega)).mono ?_
 rintro e w1 ⟨rfl,p0,t1⟩;have hb1:=t1.but (lo:=lo) (hi:=m) r0;have q0:=p0.own r0;have q1:=o1.but hb1 (.inr (Nat.le_refl _));have A1:=A.kept (hb1.block _ zA (by omega));have B1:=(But.of_below (lo:=lo) (hi:=hi) hA).trans ⟨hb1.os,hb1.tape,hb1.output,hb1.size,fun k hk ho=>hb1.block k hk (by omega)⟩;clear k0 k1 k2 k3 k4 k5 k6 k7 k8 k9 k10 k11 k12 A hb1 t1 p0 m0 o0 o1 hA;obtain ⟨k0,k1,k2,k3,k4,k5,k6,k7,k8,k9,k10,k11,k12⟩:=A1.cells13;obtain ⟨f1,m1,r1⟩:=q1.mine;have hwa:(az ms:Int)+(aq ds:Int)<=2097152:=by unfold bc at hw;omega
 go_wp2_with fail
 refine (eV _ _ _ _ ds (1+(dA ms:Int)) f1 m1 hw1 (by omega) (by omega)).mono ?_
 rintro e w2 ⟨rfl,p1,t2⟩;have hb2:=t2.but (lo:=m) (hi:=hi) r1;have s1:=ab (p1.own r1);have s0:=ab (q0.but hb2 (.inl (Nat.le_refl _)));have B2:=ab (B1.trans ⟨hb2.os,hb2.tape,hb2.output,hb2.size,fun k hk ho=>hb2.block k hk (by omega)⟩);clear k0 k1 k2 k3 k4 k5 k6 k7 k8 k9 k10 k11 k12 A1 hb2 t2 p1 m1 q0 q1 B1;go_wp2
 go_ret
 exact ⟨rfl,s0.out,s1.out,B2.out⟩
end Go.Proofs.Ytfimpohbpccjaaa
