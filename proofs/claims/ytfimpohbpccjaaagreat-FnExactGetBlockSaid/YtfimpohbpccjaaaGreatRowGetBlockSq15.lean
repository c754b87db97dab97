/-
 The walks of the program's states of a disk: which one it is in, whether it bears a stripe, and what it reads. Condition: the array weighs at most 2097152.
-/
import Derived.Test.YtfimpohbpccjaaaGreatRowGetBlockSq11
import Derived.Test.YtfimpohbpccjaaaGreatRowGetBlockSq1
import Derived.Test.YtfimpohbpccjaaaGreatRowGetBlockSq13
import Derived.Test.YtfimpohbpccjaaaGreatRowGetBlockSq3
import Derived.Test.YtfimpohbpccjaaaGreatRowGetBlockSq6
import Derived.Test.YtfimpohbpccjaaaGreatRowGetBlockSq5
import Derived.Test.YtfimpohbpccjaaaGreatRowGetBlockSq8
import Derived.BigQuiet
import Derived.WalkSmall
import Derived.Handy

set_option maxRecDepth 100000
set_option maxHeartbeats 8000000
set_option linter.unusedSimpArgs false

namespace Go.Proofs.YtfimpohbpccjaaaGreat
open Go.RowKit

def da (x:aw) (ms:List ax) (ds:List (Int×List Int)):Int:=if aS x ms ds=true then (if x.down=true then 6 else 0) else 1
def dv (x:aw) (ms:List ax) (ds:List (Int×List Int)) (s:Int):Int:=if da x ms ds=0 then (if aH x.n x.s s=true then 0 else 2) else da x ms ds
theorem eB {x:aw} {ms:List ax} {ds:List (Int×List Int)} (h:da x ms ds=0):aS x ms ds=true/\x.down=false:=by
 unfold da at h;by_cases ha:aS x ms ds=true
 . rw [if_pos ha] at h
   by_cases hd:x.down=true
   . rw [if_pos hd] at h
     omega
   exact ⟨ha,by simpa using hd⟩
 rw [if_neg ha] at h;omega
theorem cW {x:aw} {ms:List ax} {ds:List (Int×List Int)} (ha:aS x ms ds=true):bo x.n x.s=true:=by
 unfold aS at ha;simp only [Bool.and_eq_true] at ha
 exact ha.1
theorem iX {x:aw} {ms:List ax} {ds:List (Int×List Int)} (ha:aS x ms ds=true):Asc8 ds:=by
 have hg:=cW ha;obtain ⟨_,_,_,g4⟩:=ap.1 hg;unfold aS dd at ha;simp only [Bool.and_eq_true] at ha
 have he:=cg.1 ha.2.2.2.1;have h1:∀(i:Nat) (e e':Int×List Int),ds[i]?=some e->ds[i+1]?=some e'->e.1<e'.1:=fun i e e' h h'=>by
  have:=he (i+1) e' h';unfold bJ at this;simp only [Bool.and_eq_true,Bool.or_eq_true,decide_eq_true_eq,Nat.add_sub_cancel] at this
  rcases this.2.2.2 with h0|h0
  . omega
  rw [List.getD_eq_getElem?_getD,h] at h0;exact h0
 refine ⟨fun i j=>?_,fun i e h=>?_⟩
 . induction j with
   | zero=>intro e e' h;omega
   | succ j ih=>
    intro e e' hij h h';by_cases hj:i=j
    . subst hj
      exact h1 i e e' h h'
    have hjl:=(List.getElem?_eq_some_iff.1 h').1;have hjj:=List.getElem?_eq_getElem (show j<ds.length by omega);have a1:=ih e _ (by omega) h hjj;have a2:=h1 j _ e' hjj h';omega
 have:=he i e h;unfold bJ at this;simp only [Bool.and_eq_true] at this
 have:=aP.1 this.1;omega
def dp (x:aw):Bool:=inB x.seq 0 60000&&(inB x.tail 0 60000&&inB (x.seq-x.tail) 0 4)
theorem gz {x:aw} (hg:bo x.n x.s=true):dD x.n x.s x.lost x.jh=cM x:=by
 obtain ⟨g1,g2,g3,g4⟩:=ap.1 hg;rw [Bool.eq_iff_iff,ii];unfold cM;simp only [Bool.and_eq_true,aP,Bool.or_eq_true,Bool.not_eq_true',decide_eq_false_iff_not,decide_eq_true_eq]
 omega
theorem ij (x:aw):cN x=(inB x.gen 0 60000&&(inB x.jj (-1) 1000&&dp x)):=by
 rw [Bool.eq_iff_iff];unfold cN dp;simp only [Bool.and_eq_true,aP,decide_eq_true_eq]
 omega
theorem ik {x:aw} {ms:List ax} {ds:List (Int×List Int)} (hg:bo x.n x.s=true):aS x ms ds=(inB x.id 1 60000&&(dD x.n x.s x.lost x.jh&&(inB x.gen 0 60000&&(inB x.jj (-1) 1000&&(bB x ms&&(dp x&&dd x ds)))))):=by
 unfold aS;rw [hg,gz hg,ij];cases inB x.id 1 60000<;>cases cM x<;>cases inB x.gen 0 60000<;>cases inB x.jj (-1) 1000<;>cases bB x ms<;>cases dp x<;>cases dd x ds<;>rfl
theorem dJ {x:aw} {y:Int} (hg:bo x.n x.s=true):aH x.n x.s y=inB y 0 (x.s-1):=by unfold aH;rw [hg];rfl
theorem fO {zs:List Int} (h:zs.length<=12):cf zs=dm zs:=by unfold cf;simp [h]
theorem iY {x:aw} {ds:List (Int×List Int)} {p:Nat} {y:Int} {zs:List Int} {q:Int×List Int} (hq:ds[p]?=some q) (h:y<=q.1):bJ x ds (p+1) (y,zs)=false:=by
 have:ds.getD (p+1-1) (0,[])=q:=by rw [Nat.add_sub_cancel,List.getD_eq_getElem?_getD,hq];rfl
 unfold bJ;rw [this];have h2:¬q.1<y:=by omega
 simp [h2]
theorem bP (w:World) (n s:Int) (hs:1<=s/\s<=8):Calls Tryz.prog 91 #[.agg #[.int .i64 n,.int .i64 s]] w fun e w'=>e=.returned (.int .i64 (6+s))/\Below w.heap.size w w':=by
 have hA:=af w (.cells #[.int .i64 n,.int .i64 s] 31);obtain ⟨k0,k1⟩:=(bp.new w 31 n s).cells;have hd:bc s=6+s:=by unfold bc;split<;>omega
 have HD:=ab hd;clear hd;go_enter Tryz.func91,Tryz.ntmps91
 go_wp2_with fail
 refine (bU _ _).mono ?_
 rintro e w1 ⟨rfl,h1⟩;subst h1;rw [HD.out];go_wp2
 go_ret
 exact ⟨rfl,hA⟩
theorem gA (w:World) (E F:TypeId) (x:aw) (am ad:Option Addr) (nm cm nd cd:Nat) (ms:List ax) (h0:(bf E F).Rd w [.slice am nm cm] ms) (hw:aE ms<=2097152) (hg:bo x.n x.s=true):
 Calls Tryz.prog 74 #[.agg #[.int .i64 x.id,.int .i64 x.n,.int .i64 x.s,.slice am nm cm,.int .i64 x.lost,.int .i64 x.jh,.int .i64 x.seq,.int .i64 x.tail,.int .i64 x.gen,.slice ad nd cd,.int .i64 x.jj,.bool x.down,.bool x.ji]] w fun e w'=>e=.returned (.bool (bB x ms))/\Below w.heap.size w w':=by
 obtain ⟨hl,hc,hm⟩:=ag h0;obtain ⟨g1,g2,g3,g4⟩:=ap.1 hg;have hA:=af w (.cells #[.int .i64 x.id,.int .i64 x.n,.int .i64 x.s,.slice am nm cm,.int .i64 x.lost,.int .i64 x.jh,.int .i64 x.seq,.int .i64 x.tail,.int .i64 x.gen,.slice ad nd cd,.int .i64 x.jj,.bool x.down,.bool x.ji] 35);have X:=Box.new w 35 #[.int .i64 x.id,.int .i64 x.n,.int .i64 x.s,.slice am nm cm,.int .i64 x.lost,.int .i64 x.jh,.int .i64 x.seq,.int .i64 x.tail,.int .i64 x.gen,.slice ad nd cd,.int .i64 x.jj,.bool x.down,.bool x.ji];have zA:=X.lt;have hnm:nm<=2097152:=by unfold aE at hw;omega
 have h1:=h0.below hA;obtain ⟨k0,k1,k2,k3,k4,k5,k6,k7,k8,k9,k10,k11,k12⟩:=X.cells13;by_cases hN:(nm:Int)=x.n
 . have hN1:((nm:Int)==x.n)=true:=by simpa using hN
   have hN2:((nm:Int) !=x.n)=false:=by simpa using hN
   have HN:=ab hN;clear hN;go_enter Tryz.func74,Tryz.ntmps74
   go_wp2
   generalize w.alloc (.cells #[.int .i64 x.id,.int .i64 x.n,.int .i64 x.s,.slice am nm cm,.int .i64 x.lost,.int .i64 x.jh,.int .i64 x.seq,.int .i64 x.tail,.int .i64 x.gen,.slice ad nd cd,.int .i64 x.jj,.bool x.down,.bool x.ji] 35)=W at hA X zA h1 k0 k1 k2 k3 k4 k5 k6 k7 k8 k9 k10 k11 k12 ⊢;clear k0 k1 k2 k3 k4 k5 k6 k7 k8 k9 k10 k11 k12;go_loopw [15] (fun i wr=>∃j:Nat,j<=nm/\i=.int .i64 j/\(∀(q:Nat) (m:ax),q<j->ms[q]?=some m->bI x q m=true)/\Below W.heap.size W wr) (fun i _=>nm-(intOf i).toNat)
   case atStart=>exact ⟨0,Nat.zero_le _,rfl,fun q m hq=>by omega,Below.refl _ _⟩
   obtain ⟨j,hj,rfl,hall,hb⟩:=hrel;have Xr:=X.below hb zA;by_cases hjn:j<nm
   . rcases bS rfl h1 with h0'|⟨b,off,rfl,hbl,hcs⟩
     . omega
     have hdj:ms[j]?=some (ms[j]'(by omega)):=List.getElem?_eq_getElem (by omega);generalize ms[j]'(by omega)=m at hdj;obtain ⟨v0,v1,v2,v3,hv0,hv1,hv2,hv3,hrv⟩:=hcs j m hdj;obtain ⟨a0,c0,a1,c1,a3,c3,ss,cs,f,bs,rfl,rfl,rfl,rfl,rfl,r0,r1,r3⟩:=dl hrv;have u0:=(hb.cell (p:=⟨b,off+j*4,none⟩) hbl).trans hv0;have u1:=(hb.cell (p:=⟨b,off+j*4+1,none⟩) hbl).trans hv1;have u2:=(hb.cell (p:=⟨b,off+j*4+2,none⟩) hbl).trans hv2;have u3:=(hb.cell (p:=⟨b,off+j*4+3,none⟩) hbl).trans hv3;have i1:(0:Int)<=(j:Int):=by omega
     have i2:(j:Int)<(nm:Int):=by omega
     have hwm:=Nat.le_trans (cE hdj) hw;have HDJ:=ab hdj;clear hcs hv0 hv1 hv2 hv3 hrv hdj;have b1:=af wr (.cells #[.slice a0 ss.length c0,.slice a1 cs.length c1,.bool f,.slice a3 bs.length c3] 66);have Y1:=Box.new wr 66 #[.slice a0 ss.length c0,.slice a1 cs.length c1,.bool f,.slice a3 bs.length c3];have X1:=Xr.below b1 Xr.lt;have R0:=(r0.below hb).below b1;have R1:=(r1.below hb).below b1;have R3:=(r3.below hb).below b1;have B1:=hb.trans (b1.mono hb.size);clear r0 r1 r3 b1;obtain ⟨y0,y1,y2,y3⟩:=Y1.cells4;obtain ⟨e0,e1,e2,e3,e4,e5,e6,e7,e8,e9,e10,e11,e12⟩:=X1.cells13;have zy:=Y1.lt;have zx:=X1.lt;clear e0 e3 e5 e6 e7 e8 e9 e10 e11;cases hM:bT ss cs bs
     . skip
       go_wp2_with fail
       generalize wr.alloc (.cells #[.slice a0 ss.length c0,.slice a1 cs.length c1,.bool f,.slice a3 bs.length c3] 66)=w1 at X1 Y1 R0 R1 R3 B1 y0 y1 y2 y3 e1 e2 e4 e12 zy zx ⊢;refine wp_region_held_drew (S:=fun w'=>w'.cell? ⟨wr.heap.size,0,none⟩=some (.slice a0 ss.length c0)/\w'.cell? ⟨wr.heap.size,1,none⟩=some (.slice a1 cs.length c1)/\w'.cell? ⟨wr.heap.size,2,none⟩=some (.bool f)/\w'.cell? ⟨wr.heap.size,3,none⟩=some (.slice a3 bs.length c3)/\w'.cell? ⟨w.heap.size,1,none⟩=some (.int .i64 x.n)/\w'.cell? ⟨w.heap.size,2,none⟩=some (.int .i64 x.s)) (by kernel_rfl) ?_ (fun jg=>?_)
       . exact ⟨y0,y1,y2,y3,e1,e2⟩
       refine aa 0 jg ?_
       refine ah (i:=1) (by kernel_rfl) rfl (by kernel_rfl) (fun K hK=>?_)
       go_simp
       refine (aO _ E _ _ _ _ _ _ _ _ _ ss cs f bs R0.drew R1.drew R3.drew hwm).mono ?_
       rintro e w2 ⟨rfl,b2⟩;rw [hM];have b2':Below w1.heap.size w1 w2:=(Below.refl w1.heap.size w1).drew.trans b2;clear b2;go_wp2_with fail
       clear jg;refine hK.out _ _ ?_ (fun jg=>?_)
       . exact ⟨(b2'.cell (p:=⟨wr.heap.size,0,none⟩) zy).trans y0,(b2'.cell (p:=⟨wr.heap.size,1,none⟩) zy).trans y1,(b2'.cell (p:=⟨wr.heap.size,2,none⟩) zy).trans y2,(b2'.cell (p:=⟨wr.heap.size,3,none⟩) zy).trans y3,(b2'.cell (p:=⟨w.heap.size,1,none⟩) zx).trans e1,(b2'.cell (p:=⟨w.heap.size,2,none⟩) zx).trans e2⟩
       clear hK K;refine aa 2 jg ?_
       refine aa 3 jg ?_
       refine ae 4 jg ?_
       refine ae 5 jg ?_
       refine ae 6 jg ?_
       refine ae 7 jg ?_
       refine ae 8 jg ?_
       refine cF (i:=9) (by kernel_rfl) rfl (by kernel_rfl) jg ?_
       simp only [Act.put,List.setIfInBounds_toArray,List.set_cons_zero,List.set_cons_succ]
       refine ae 10 jg ?_
       refine aa 11 jg ?_
       refine wpAnyH_done (by kernel_rfl) ?_ _
       clear jg;have HB:=ab (hA.trans ((B1.trans (b2'.mono B1.size)).mono hA.size));go_wp2
       go_ret
       exact ⟨ac (by rw [show bB x ms=false from (by unfold bB;rw [cK HDJ.out (by unfold bI;simp [hM])];rfl)]),HB.out⟩
     by_cases hS:(ss.length:Int)=6+x.s
     . have hS1:((ss.length:Int)==6+x.s)=true:=by simpa using hS
       have hS2:((ss.length:Int) !=6+x.s)=false:=by simpa using hS
       have HS:=ab hS;clear hS;cases f
       . skip
         go_wp2_with fail
         generalize wr.alloc (.cells #[.slice a0 ss.length c0,.slice a1 cs.length c1,.bool false,.slice a3 bs.length c3] 66)=w1 at X1 Y1 R0 R1 R3 B1 y0 y1 y2 y3 e1 e2 e4 e12 zy zx ⊢;refine wp_region_held_drew (S:=fun w'=>w'.cell? ⟨wr.heap.size,0,none⟩=some (.slice a0 ss.length c0)/\w'.cell? ⟨wr.heap.size,1,none⟩=some (.slice a1 cs.length c1)/\w'.cell? ⟨wr.heap.size,2,none⟩=some (.bool false)/\w'.cell? ⟨wr.heap.size,3,none⟩=some (.slice a3 bs.length c3)/\w'.cell? ⟨w.heap.size,1,none⟩=some (.int .i64 x.n)/\w'.cell? ⟨w.heap.size,2,none⟩=some (.int .i64 x.s)) (by kernel_rfl) ?_ (fun jg=>?_)
         . exact ⟨y0,y1,y2,y3,e1,e2⟩
         refine aa 0 jg ?_
         refine ah (i:=1) (by kernel_rfl) rfl (by kernel_rfl) (fun K hK=>?_)
         go_simp
         refine (aO _ E _ _ _ _ _ _ _ _ _ ss cs false bs R0.drew R1.drew R3.drew hwm).mono ?_
         rintro e w2 ⟨rfl,b2⟩;rw [hM];have b2':Below w1.heap.size w1 w2:=(Below.refl w1.heap.size w1).drew.trans b2;clear b2;go_wp2_with fail
         clear jg;refine hK.out _ _ ?_ (fun jg=>?_)
         . exact ⟨(b2'.cell (p:=⟨wr.heap.size,0,none⟩) zy).trans y0,(b2'.cell (p:=⟨wr.heap.size,1,none⟩) zy).trans y1,(b2'.cell (p:=⟨wr.heap.size,2,none⟩) zy).trans y2,(b2'.cell (p:=⟨wr.heap.size,3,none⟩) zy).trans y3,(b2'.cell (p:=⟨w.heap.size,1,none⟩) zx).trans e1,(b2'.cell (p:=⟨w.heap.size,2,none⟩) zx).trans e2⟩
         clear hK K;refine aa 2 jg ?_
         refine aa 3 jg ?_
         refine aa 4 jg ?_
         refine aa 5 jg ?_
         refine aa 6 jg ?_
         refine aa 7 jg ?_
         refine aa 8 jg ?_
         refine ah (i:=9) (by kernel_rfl) rfl (by kernel_rfl) (fun K hK=>?_)
         go_simp
         refine (bP _ x.n x.s ⟨g3,g4⟩).mono ?_
         rintro e w3 ⟨rfl,b3⟩;have b3':Below w1.heap.size w1 w3:=Below.andThen b2' b3;clear b3;go_wp2_with fail
         clear jg;refine hK.out _ _ ?_ (fun jg=>?_)
         . exact ⟨(b3'.cell (p:=⟨wr.heap.size,0,none⟩) zy).trans y0,(b3'.cell (p:=⟨wr.heap.size,1,none⟩) zy).trans y1,(b3'.cell (p:=⟨wr.heap.size,2,none⟩) zy).trans y2,(b3'.cell (p:=⟨wr.heap.size,3,none⟩) zy).trans y3,(b3'.cell (p:=⟨w.heap.size,1,none⟩) zx).trans e1,(b3'.cell (p:=⟨w.heap.size,2,none⟩) zx).trans e2⟩
         clear hK K;refine aa 10 jg ?_
         refine aa 11 jg ?_
         refine wpAnyH_done (by kernel_rfl) ?_ _
         clear jg;have n0:=(b3'.cell (p:=⟨w.heap.size,4,none⟩) zx).trans e4;have n1:=(b3'.cell (p:=⟨w.heap.size,12,none⟩) zx).trans e12;have n2:=(b3'.cell (p:=⟨wr.heap.size,2,none⟩) zy).trans y2;have HB:=ab (B1.trans (b3'.mono B1.size));have hat:bI x j (ss,cs,false,bs)=true:=(by unfold bI;simp [hM,HS.out]);go_wp2
         go_roundw
         case rel=>exact ⟨j+1,by omega,by go_num,fun q m hq hm'=>by
          rcases Nat.lt_or_ge q j with h|h
          . exact hall q m h hm'
          obtain rfl:q=j:=by omega
          rw [HDJ.out] at hm';cases hm';exact hat,HB.out⟩
         case measure=>simp [intOf];omega
       by_cases hL:(j:Int)=x.lost
       . have hL1:((j:Int)==x.lost)=true:=by simpa using hL
         have hL2:((j:Int) !=x.lost)=false:=by simpa using hL
         have HL:=ab hL;clear hL;go_wp2_with fail
         generalize wr.alloc (.cells #[.slice a0 ss.length c0,.slice a1 cs.length c1,.bool true,.slice a3 bs.length c3] 66)=w1 at X1 Y1 R0 R1 R3 B1 y0 y1 y2 y3 e1 e2 e4 e12 zy zx ⊢;refine wp_region_held_drew (S:=fun w'=>w'.cell? ⟨wr.heap.size,0,none⟩=some (.slice a0 ss.length c0)/\w'.cell? ⟨wr.heap.size,1,none⟩=some (.slice a1 cs.length c1)/\w'.cell? ⟨wr.heap.size,2,none⟩=some (.bool true)/\w'.cell? ⟨wr.heap.size,3,none⟩=some (.slice a3 bs.length c3)/\w'.cell? ⟨w.heap.size,1,none⟩=some (.int .i64 x.n)/\w'.cell? ⟨w.heap.size,2,none⟩=some (.int .i64 x.s)) (by kernel_rfl) ?_ (fun jg=>?_)
         . exact ⟨y0,y1,y2,y3,e1,e2⟩
         refine aa 0 jg ?_
         refine ah (i:=1) (by kernel_rfl) rfl (by kernel_rfl) (fun K hK=>?_)
         go_simp
         refine (aO _ E _ _ _ _ _ _ _ _ _ ss cs true bs R0.drew R1.drew R3.drew hwm).mono ?_
         rintro e w2 ⟨rfl,b2⟩;rw [hM];have b2':Below w1.heap.size w1 w2:=(Below.refl w1.heap.size w1).drew.trans b2;clear b2;go_wp2_with fail
         clear jg;refine hK.out _ _ ?_ (fun jg=>?_)
         . exact ⟨(b2'.cell (p:=⟨wr.heap.size,0,none⟩) zy).trans y0,(b2'.cell (p:=⟨wr.heap.size,1,none⟩) zy).trans y1,(b2'.cell (p:=⟨wr.heap.size,2,none⟩) zy).trans y2,(b2'.cell (p:=⟨wr.heap.size,3,none⟩) zy).trans y3,(b2'.cell (p:=⟨w.heap.size,1,none⟩) zx).trans e1,(b2'.cell (p:=⟨w.heap.size,2,none⟩) zx).trans e2⟩
         clear hK K;refine aa 2 jg ?_
         refine aa 3 jg ?_
         refine aa 4 jg ?_
         refine aa 5 jg ?_
         refine aa 6 jg ?_
         refine aa 7 jg ?_
         refine aa 8 jg ?_
         refine ah (i:=9) (by kernel_rfl) rfl (by kernel_rfl) (fun K hK=>?_)
         go_simp
         refine (bP _ x.n x.s ⟨g3,g4⟩).mono ?_
         rintro e w3 ⟨rfl,b3⟩;have b3':Below w1.heap.size w1 w3:=Below.andThen b2' b3;clear b3;go_wp2_with fail
         clear jg;refine hK.out _ _ ?_ (fun jg=>?_)
         . exact ⟨(b3'.cell (p:=⟨wr.heap.size,0,none⟩) zy).trans y0,(b3'.cell (p:=⟨wr.heap.size,1,none⟩) zy).trans y1,(b3'.cell (p:=⟨wr.heap.size,2,none⟩) zy).trans y2,(b3'.cell (p:=⟨wr.heap.size,3,none⟩) zy).trans y3,(b3'.cell (p:=⟨w.heap.size,1,none⟩) zx).trans e1,(b3'.cell (p:=⟨w.heap.size,2,none⟩) zx).trans e2⟩
         clear hK K;refine aa 10 jg ?_
         refine aa 11 jg ?_
         refine wpAnyH_done (by kernel_rfl) ?_ _
         clear jg;have n0:=(b3'.cell (p:=⟨w.heap.size,4,none⟩) zx).trans e4;have n1:=(b3'.cell (p:=⟨w.heap.size,12,none⟩) zx).trans e12;have n2:=(b3'.cell (p:=⟨wr.heap.size,2,none⟩) zy).trans y2;have HB:=ab (B1.trans (b3'.mono B1.size));have hat:bI x j (ss,cs,true,bs)=true:=(by unfold bI;simp [hM,HS.out,HL.out]);go_wp2
         go_roundw
         case rel=>exact ⟨j+1,by omega,by go_num,fun q m hq hm'=>by
          rcases Nat.lt_or_ge q j with h|h
          . exact hall q m h hm'
          obtain rfl:q=j:=by omega
          rw [HDJ.out] at hm';cases hm';exact hat,HB.out⟩
         case measure=>simp [intOf];omega
       have hL1:((j:Int)==x.lost)=false:=by simpa using hL
       have hL2:((j:Int) !=x.lost)=true:=by simpa using hL
       have HL:=ab hL;clear hL;cases hBr:x.ji
       . rw [hBr] at e12
         go_wp2_with fail
         generalize wr.alloc (.cells #[.slice a0 ss.length c0,.slice a1 cs.length c1,.bool true,.slice a3 bs.length c3] 66)=w1 at X1 Y1 R0 R1 R3 B1 y0 y1 y2 y3 e1 e2 e4 e12 zy zx ⊢;refine wp_region_held_drew (S:=fun w'=>w'.cell? ⟨wr.heap.size,0,none⟩=some (.slice a0 ss.length c0)/\w'.cell? ⟨wr.heap.size,1,none⟩=some (.slice a1 cs.length c1)/\w'.cell? ⟨wr.heap.size,2,none⟩=some (.bool true)/\w'.cell? ⟨wr.heap.size,3,none⟩=some (.slice a3 bs.length c3)/\w'.cell? ⟨w.heap.size,1,none⟩=some (.int .i64 x.n)/\w'.cell? ⟨w.heap.size,2,none⟩=some (.int .i64 x.s)) (by kernel_rfl) ?_ (fun jg=>?_)
         . exact ⟨y0,y1,y2,y3,e1,e2⟩
         refine aa 0 jg ?_
         refine ah (i:=1) (by kernel_rfl) rfl (by kernel_rfl) (fun K hK=>?_)
         go_simp
         refine (aO _ E _ _ _ _ _ _ _ _ _ ss cs true bs R0.drew R1.drew R3.drew hwm).mono ?_
         rintro e w2 ⟨rfl,b2⟩;rw [hM];have b2':Below w1.heap.size w1 w2:=(Below.refl w1.heap.size w1).drew.trans b2;clear b2;go_wp2_with fail
         clear jg;refine hK.out _ _ ?_ (fun jg=>?_)
         . exact ⟨(b2'.cell (p:=⟨wr.heap.size,0,none⟩) zy).trans y0,(b2'.cell (p:=⟨wr.heap.size,1,none⟩) zy).trans y1,(b2'.cell (p:=⟨wr.heap.size,2,none⟩) zy).trans y2,(b2'.cell (p:=⟨wr.heap.size,3,none⟩) zy).trans y3,(b2'.cell (p:=⟨w.heap.size,1,none⟩) zx).trans e1,(b2'.cell (p:=⟨w.heap.size,2,none⟩) zx).trans e2⟩
         clear hK K;refine aa 2 jg ?_
         refine aa 3 jg ?_
         refine aa 4 jg ?_
         refine aa 5 jg ?_
         refine aa 6 jg ?_
         refine aa 7 jg ?_
         refine aa 8 jg ?_
         refine ah (i:=9) (by kernel_rfl) rfl (by kernel_rfl) (fun K hK=>?_)
         go_simp
         refine (bP _ x.n x.s ⟨g3,g4⟩).mono ?_
         rintro e w3 ⟨rfl,b3⟩;have b3':Below w1.heap.size w1 w3:=Below.andThen b2' b3;clear b3;go_wp2_with fail
         clear jg;refine hK.out _ _ ?_ (fun jg=>?_)
         . exact ⟨(b3'.cell (p:=⟨wr.heap.size,0,none⟩) zy).trans y0,(b3'.cell (p:=⟨wr.heap.size,1,none⟩) zy).trans y1,(b3'.cell (p:=⟨wr.heap.size,2,none⟩) zy).trans y2,(b3'.cell (p:=⟨wr.heap.size,3,none⟩) zy).trans y3,(b3'.cell (p:=⟨w.heap.size,1,none⟩) zx).trans e1,(b3'.cell (p:=⟨w.heap.size,2,none⟩) zx).trans e2⟩
         clear hK K;refine aa 10 jg ?_
         refine aa 11 jg ?_
         refine wpAnyH_done (by kernel_rfl) ?_ _
         clear jg;have n0:=(b3'.cell (p:=⟨w.heap.size,4,none⟩) zx).trans e4;have n1:=(b3'.cell (p:=⟨w.heap.size,12,none⟩) zx).trans e12;have n2:=(b3'.cell (p:=⟨wr.heap.size,2,none⟩) zy).trans y2;have HB:=ab (hA.trans ((B1.trans (b3'.mono B1.size)).mono hA.size));go_wp2
         go_ret
         exact ⟨ac (by rw [show bB x ms=false from (by unfold bB;rw [cK HDJ.out (by unfold bI;simp [HL.out,hBr])];rfl)]),HB.out⟩
       rw [hBr] at e12;go_wp2_with fail
       generalize wr.alloc (.cells #[.slice a0 ss.length c0,.slice a1 cs.length c1,.bool true,.slice a3 bs.length c3] 66)=w1 at X1 Y1 R0 R1 R3 B1 y0 y1 y2 y3 e1 e2 e4 e12 zy zx ⊢;refine wp_region_held_drew (S:=fun w'=>w'.cell? ⟨wr.heap.size,0,none⟩=some (.slice a0 ss.length c0)/\w'.cell? ⟨wr.heap.size,1,none⟩=some (.slice a1 cs.length c1)/\w'.cell? ⟨wr.heap.size,2,none⟩=some (.bool true)/\w'.cell? ⟨wr.heap.size,3,none⟩=some (.slice a3 bs.length c3)/\w'.cell? ⟨w.heap.size,1,none⟩=some (.int .i64 x.n)/\w'.cell? ⟨w.heap.size,2,none⟩=some (.int .i64 x.s)) (by kernel_rfl) ?_ (fun jg=>?_)
       . exact ⟨y0,y1,y2,y3,e1,e2⟩
       refine aa 0 jg ?_
       refine ah (i:=1) (by kernel_rfl) rfl (by kernel_rfl) (fun K hK=>?_)
       go_simp
       refine (aO _ E _ _ _ _ _ _ _ _ _ ss cs true bs R0.drew R1.drew R3.drew hwm).mono ?_
       rintro e w2 ⟨rfl,b2⟩;rw [hM];have b2':Below w1.heap.size w1 w2:=(Below.refl w1.heap.size w1).drew.trans b2;clear b2;go_wp2_with fail
       clear jg;refine hK.out _ _ ?_ (fun jg=>?_)
       . exact ⟨(b2'.cell (p:=⟨wr.heap.size,0,none⟩) zy).trans y0,(b2'.cell (p:=⟨wr.heap.size,1,none⟩) zy).trans y1,(b2'.cell (p:=⟨wr.heap.size,2,none⟩) zy).trans y2,(b2'.cell (p:=⟨wr.heap.size,3,none⟩) zy).trans y3,(b2'.cell (p:=⟨w.heap.size,1,none⟩) zx).trans e1,(b2'.cell (p:=⟨w.heap.size,2,none⟩) zx).trans e2⟩
       clear hK K;refine aa 2 jg ?_
       refine aa 3 jg ?_
       refine aa 4 jg ?_
       refine aa 5 jg ?_
       refine aa 6 jg ?_
       refine aa 7 jg ?_
       refine aa 8 jg ?_
       refine ah (i:=9) (by kernel_rfl) rfl (by kernel_rfl) (fun K hK=>?_)
       go_simp
       refine (bP _ x.n x.s ⟨g3,g4⟩).mono ?_
       rintro e w3 ⟨rfl,b3⟩;have b3':Below w1.heap.size w1 w3:=Below.andThen b2' b3;clear b3;go_wp2_with fail
       clear jg;refine hK.out _ _ ?_ (fun jg=>?_)
       . exact ⟨(b3'.cell (p:=⟨wr.heap.size,0,none⟩) zy).trans y0,(b3'.cell (p:=⟨wr.heap.size,1,none⟩) zy).trans y1,(b3'.cell (p:=⟨wr.heap.size,2,none⟩) zy).trans y2,(b3'.cell (p:=⟨wr.heap.size,3,none⟩) zy).trans y3,(b3'.cell (p:=⟨w.heap.size,1,none⟩) zx).trans e1,(b3'.cell (p:=⟨w.heap.size,2,none⟩) zx).trans e2⟩
       clear hK K;refine aa 10 jg ?_
       refine aa 11 jg ?_
       refine wpAnyH_done (by kernel_rfl) ?_ _
       clear jg;have n0:=(b3'.cell (p:=⟨w.heap.size,4,none⟩) zx).trans e4;have n1:=(b3'.cell (p:=⟨w.heap.size,12,none⟩) zx).trans e12;have n2:=(b3'.cell (p:=⟨wr.heap.size,2,none⟩) zy).trans y2;have HB:=ab (B1.trans (b3'.mono B1.size));have hat:bI x j (ss,cs,true,bs)=true:=(by unfold bI;simp [hM,HS.out,hBr]);go_wp2
       go_roundw
       case rel=>exact ⟨j+1,by omega,by go_num,fun q m hq hm'=>by
        rcases Nat.lt_or_ge q j with h|h
        . exact hall q m h hm'
        obtain rfl:q=j:=by omega
        rw [HDJ.out] at hm';cases hm';exact hat,HB.out⟩
       case measure=>simp [intOf];omega
     have hS1:((ss.length:Int)==6+x.s)=false:=by simpa using hS
     have hS2:((ss.length:Int) !=6+x.s)=true:=by simpa using hS
     have HS:=ab hS;clear hS;go_wp2_with fail
     generalize wr.alloc (.cells #[.slice a0 ss.length c0,.slice a1 cs.length c1,.bool f,.slice a3 bs.length c3] 66)=w1 at X1 Y1 R0 R1 R3 B1 y0 y1 y2 y3 e1 e2 e4 e12 zy zx ⊢;refine wp_region_held_drew (S:=fun w'=>w'.cell? ⟨wr.heap.size,0,none⟩=some (.slice a0 ss.length c0)/\w'.cell? ⟨wr.heap.size,1,none⟩=some (.slice a1 cs.length c1)/\w'.cell? ⟨wr.heap.size,2,none⟩=some (.bool f)/\w'.cell? ⟨wr.heap.size,3,none⟩=some (.slice a3 bs.length c3)/\w'.cell? ⟨w.heap.size,1,none⟩=some (.int .i64 x.n)/\w'.cell? ⟨w.heap.size,2,none⟩=some (.int .i64 x.s)) (by kernel_rfl) ?_ (fun jg=>?_)
     . exact ⟨y0,y1,y2,y3,e1,e2⟩
     refine aa 0 jg ?_
     refine ah (i:=1) (by kernel_rfl) rfl (by kernel_rfl) (fun K hK=>?_)
     go_simp
     refine (aO _ E _ _ _ _ _ _ _ _ _ ss cs f bs R0.drew R1.drew R3.drew hwm).mono ?_
     rintro e w2 ⟨rfl,b2⟩;rw [hM];have b2':Below w1.heap.size w1 w2:=(Below.refl w1.heap.size w1).drew.trans b2;clear b2;go_wp2_with fail
     clear jg;refine hK.out _ _ ?_ (fun jg=>?_)
     . exact ⟨(b2'.cell (p:=⟨wr.heap.size,0,none⟩) zy).trans y0,(b2'.cell (p:=⟨wr.heap.size,1,none⟩) zy).trans y1,(b2'.cell (p:=⟨wr.heap.size,2,none⟩) zy).trans y2,(b2'.cell (p:=⟨wr.heap.size,3,none⟩) zy).trans y3,(b2'.cell (p:=⟨w.heap.size,1,none⟩) zx).trans e1,(b2'.cell (p:=⟨w.heap.size,2,none⟩) zx).trans e2⟩
     clear hK K;refine aa 2 jg ?_
     refine aa 3 jg ?_
     refine aa 4 jg ?_
     refine aa 5 jg ?_
     refine aa 6 jg ?_
     refine aa 7 jg ?_
     refine aa 8 jg ?_
     refine ah (i:=9) (by kernel_rfl) rfl (by kernel_rfl) (fun K hK=>?_)
     go_simp
     refine (bP _ x.n x.s ⟨g3,g4⟩).mono ?_
     rintro e w3 ⟨rfl,b3⟩;have b3':Below w1.heap.size w1 w3:=Below.andThen b2' b3;clear b3;go_wp2_with fail
     clear jg;refine hK.out _ _ ?_ (fun jg=>?_)
     . exact ⟨(b3'.cell (p:=⟨wr.heap.size,0,none⟩) zy).trans y0,(b3'.cell (p:=⟨wr.heap.size,1,none⟩) zy).trans y1,(b3'.cell (p:=⟨wr.heap.size,2,none⟩) zy).trans y2,(b3'.cell (p:=⟨wr.heap.size,3,none⟩) zy).trans y3,(b3'.cell (p:=⟨w.heap.size,1,none⟩) zx).trans e1,(b3'.cell (p:=⟨w.heap.size,2,none⟩) zx).trans e2⟩
     clear hK K;refine aa 10 jg ?_
     refine aa 11 jg ?_
     refine wpAnyH_done (by kernel_rfl) ?_ _
     clear jg;have n0:=(b3'.cell (p:=⟨w.heap.size,4,none⟩) zx).trans e4;have n1:=(b3'.cell (p:=⟨w.heap.size,12,none⟩) zx).trans e12;have n2:=(b3'.cell (p:=⟨wr.heap.size,2,none⟩) zy).trans y2;have HB:=ab (hA.trans ((B1.trans (b3'.mono B1.size)).mono hA.size));go_wp2
     go_ret
     exact ⟨ac (by rw [show bB x ms=false from (by unfold bB;rw [cK HDJ.out (by unfold bI;simp [HS.out])];rfl)]),HB.out⟩
   have e:j=nm:=by omega
   subst e;have hAll:ee (bI x) ms=true:=cg.2 (fun q m hq=>hall q m (by have:=(List.getElem?_eq_some_iff.1 hq).1;omega) hq);have HB:=ab (hA.trans (hb.mono hA.size));have hR:bB x ms=true:=by unfold bB;rw [hAll,hl];simpa using HN.out
   go_wp2
   go_ret
   exact ⟨ac hR.symm,HB.out⟩
 have hN1:((nm:Int)==x.n)=false:=by simpa using hN
 have hN2:((nm:Int) !=x.n)=true:=by simpa using hN
 have hR:bB x ms=false:=by unfold bB;rw [hl];simp [hN]
 have HR:=ab hR;clear hN hR;go_enter Tryz.func74,Tryz.ntmps74
 go_wp2
 go_ret
 exact ⟨ac HR.out.symm,hA⟩
def DiskV (w:World) (E:TypeId) (x:aw) (ms:List ax) (j:Nat) (v:Value):Prop:=
 ∃(a0 a1 a3:Option Addr) (c0 c1 c3:Nat) (ss:List (List Int)) (cs:List (Int×List Int)) (f:Bool) (bs:List Int),ms[j]?=some (ss,cs,f,bs)/\bj.Rd w [.slice a0 ss.length c0] ss/\(aV E).Rd w [.slice a1 cs.length c1] cs/\aI.Rd w [.slice a3 bs.length c3] bs /\
  ((f=true/\v=.iface 117 (.agg #[]))∨(f=false/\(j:Int)=x.lost/\v=.iface 121 (.agg #[.slice a0 ss.length c0,.slice a1 cs.length c1,.bool false,.slice a3 bs.length c3,.int .i64 x.jh]))∨(f=false/\¬(j:Int)=x.lost/\v=.iface 123 (.agg #[.slice a0 ss.length c0,.slice a1 cs.length c1,.bool false,.slice a3 bs.length c3])))
theorem gK (w:World) (E F:TypeId) (x:aw) (am ad:Option Addr) (nm cm nd cd:Nat) (ms:List ax) (j:Nat) (h0:(bf E F).Rd w [.slice am nm cm] ms) (hw:aE ms<=2097152) (hj:j<nm):
 Calls Tryz.prog 80 #[.agg #[.int .i64 x.id,.int .i64 x.n,.int .i64 x.s,.slice am nm cm,.int .i64 x.lost,.int .i64 x.jh,.int .i64 x.seq,.int .i64 x.tail,.int .i64 x.gen,.slice ad nd cd,.int .i64 x.jj,.bool x.down,.bool x.ji],.int .i64 (j:Int)] w fun e w'=>∃v,e=.returned v/\DiskV w' E x ms j v/\Below w.heap.size w w':=by
 obtain ⟨hl,hc,hm⟩:=ag h0;have hnm:nm<=2097152:=by unfold aE at hw;omega
 have hA:=af w (.cells #[.int .i64 x.id,.int .i64 x.n,.int .i64 x.s,.slice am nm cm,.int .i64 x.lost,.int .i64 x.jh,.int .i64 x.seq,.int .i64 x.tail,.int .i64 x.gen,.slice ad nd cd,.int .i64 x.jj,.bool x.down,.bool x.ji] 35);have X:=Box.new w 35 #[.int .i64 x.id,.int .i64 x.n,.int .i64 x.s,.slice am nm cm,.int .i64 x.lost,.int .i64 x.jh,.int .i64 x.seq,.int .i64 x.tail,.int .i64 x.gen,.slice ad nd cd,.int .i64 x.jj,.bool x.down,.bool x.ji];obtain ⟨k0,k1,k2,k3,k4,k5,k6,k7,k8,k9,k10,k11,k12⟩:=X.cells13;have h1:=h0.below hA;have i1:(0:Int)<=(j:Int):=by omega
 have i2:(j:Int)<(nm:Int):=by omega
 rcases bS rfl h1 with h0'|⟨b,off,rfl,hbl,hcs⟩
 . omega
 have hdj:ms[j]?=some (ms[j]'(by omega)):=List.getElem?_eq_getElem (by omega);generalize ms[j]'(by omega)=d at hdj;obtain ⟨v0,v1,v2,v3,hv0,hv1,hv2,hv3,hrv⟩:=hcs j d hdj;obtain ⟨a0,c0,a1,c1,a3,c3,ss,cs,f,bs,rfl,rfl,rfl,rfl,rfl,r0,r1,r3⟩:=dl hrv;clear hcs hrv h1 h0;have HR:=ab (And.intro hdj (And.intro r0 (And.intro r1 r3)));clear hdj r0 r1 r3;cases f
 . by_cases hjl:(j:Int)=x.lost
   . have e1:((j:Int)==x.lost)=true:=by simpa using hjl
     have HJ:=ab hjl;clear hjl;go_enter Tryz.func80,Tryz.ntmps80
     go_wp2
     go_quiet (fail)
     go_wp2
     refine bodyPost_ret (v:=.iface 121 (.agg #[.slice a0 ss.length c0,.slice a1 cs.length c1,.bool false,.slice a3 bs.length c3,.int .i64 x.jh])) (by simp [results,Tryz.results80,go_sem]) rfl ?_
     exact ⟨_,rfl,⟨_,_,_,_,_,_,ss,cs,false,bs,HR.out.1,HR.out.2.1.below (below_drewN (Below.refl _ _) _),HR.out.2.2.1.below (below_drewN (Below.refl _ _) _),HR.out.2.2.2.below (below_drewN (Below.refl _ _) _),.inr (.inl ⟨rfl,HJ.out,rfl⟩)⟩,below_drewN hA _⟩
   have e1:((j:Int)==x.lost)=false:=by simpa using hjl
   have HJ:=ab hjl;clear hjl;go_enter Tryz.func80,Tryz.ntmps80
   go_wp2
   refine bodyPost_ret (v:=.iface 123 (.agg #[.slice a0 ss.length c0,.slice a1 cs.length c1,.bool false,.slice a3 bs.length c3])) (by simp [results,Tryz.results80,go_sem]) rfl ?_
   exact ⟨_,rfl,⟨_,_,_,_,_,_,ss,cs,false,bs,HR.out.1,HR.out.2.1,HR.out.2.2.1,HR.out.2.2.2,.inr (.inr ⟨rfl,HJ.out,rfl⟩)⟩,hA⟩
 go_enter Tryz.func80,Tryz.ntmps80
 go_wp2
 refine bodyPost_ret (v:=.iface 117 (.agg #[])) (by simp [results,Tryz.results80,go_sem]) rfl ?_
 exact ⟨_,rfl,⟨_,_,_,_,_,_,ss,cs,true,bs,HR.out.1,HR.out.2.1,HR.out.2.2.1,HR.out.2.2.2,.inl ⟨rfl,rfl⟩⟩,hA⟩
theorem iO (w:World) (v0 v1 v2 v3:Value):Sem.run Tryz.prog (Instr.typeAssert (.iface 123 (.agg #[v0,v1,v2,v3])) 106 123 true) w=.ok (.tuple #[.agg #[v0,v1,v2,v3],.bool true]) w:=by kernel_rfl
theorem gL (w:World) (v:Value):Sem.run Tryz.prog (Instr.typeAssert (.iface 121 v) 106 123 true) w=.ok (.tuple #[.agg #[.slice none 0 0,.slice none 0 0,.bool false,.slice none 0 0],.bool false]) w:=by kernel_rfl
theorem jd (w:World) (v0 v1 v2 v3 v4:Value):Sem.run Tryz.prog (Instr.typeAssert (.iface 121 (.agg #[v0,v1,v2,v3,v4])) 106 121 true) w=.ok (.tuple #[.agg #[v0,v1,v2,v3,v4],.bool true]) w:=by kernel_rfl
theorem fX (w:World) (a0 a1 a3:Option Addr) (n0 c0 n1 c1 n3 c3:Nat) (f:Bool) (s:Int):Calls Tryz.prog 94 #[.iface 123 (.agg #[.slice a0 n0 c0,.slice a1 n1 c1,.bool f,.slice a3 n3 c3]),.int .i64 s] w fun e w'=>e=.returned (.bool true)/\Below w.heap.size w w':=by
 have hA:=af w (.cells #[.slice a0 n0 c0,.slice a1 n1 c1,.bool f,.slice a3 n3 c3] 123);have s1:=iO w (.slice a0 n0 c0) (.slice a1 n1 c1) (.bool f) (.slice a3 n3 c3);go_enter Tryz.func94,Tryz.ntmps94
 go_wp2
 go_ret
 exact ⟨rfl,hA⟩
theorem gM (w:World) (a0 a1 a3:Option Addr) (n0 c0 n1 c1 n3 c3:Nat) (f:Bool) (b s:Int):Calls Tryz.prog 94 #[.iface 121 (.agg #[.slice a0 n0 c0,.slice a1 n1 c1,.bool f,.slice a3 n3 c3,.int .i64 b]),.int .i64 s] w fun e w'=>e=.returned (.bool (decide (s<b)))/\Below w.heap.size w w':=by
 have hA:=af w (.cells #[.slice a0 n0 c0,.slice a1 n1 c1,.bool f,.slice a3 n3 c3,.int .i64 b] 121);have s1:=gL w (.agg #[.slice a0 n0 c0,.slice a1 n1 c1,.bool f,.slice a3 n3 c3,.int .i64 b]);have s2:=jd w (.slice a0 n0 c0) (.slice a1 n1 c1) (.bool f) (.slice a3 n3 c3) (.int .i64 b);go_enter Tryz.func94,Tryz.ntmps94
 go_wp2
 go_ret
 exact ⟨rfl,hA⟩
end Go.Proofs.YtfimpohbpccjaaaGreat
