/-
 The walk of the specification's l6Turn: an array that is right is turned, and stays so. Condition: the state of the drawing, its numbers below 58000.
-/
import Derived.Test.YtgjomldcnjjpaaaGreatRowArrsSq48
import Derived.Test.YtgjomldcnjjpaaaGreatRowArrsSq4
import Derived.Test.YtgjomldcnjjpaaaGreatRowArrsSq3

set_option maxRecDepth 100000
set_option maxHeartbeats 8000000
set_option linter.unusedSimpArgs false

namespace Go.Proofs.YtgjomldcnjjpaaaGreat
open Go.RowKit

theorem At6.more {w:World} {g:Nat} {a:Option Addr} {lb cb:Nat} {zs:List Int} {N B:Nat} {G G':Int} (h:At6 w g a lb cb zs N B G) (hG:G<=G'):At6 w g a lb cb zs N B G':=by
 obtain ⟨q,ds,fm,fd,h⟩:=h;exact ⟨q,ds,fm,fd,h.more hG⟩
theorem St6.cells {w:World} {g:Nat} {a:Option Addr} {lb cb:Nat} {zs:List Int} {N B:Nat} {G:Int} {q:aq×List ai} {ds:List aH} {fm fd:List Nat} (h:St6 w g a lb cb zs N B G q ds fm fd):w.cell? ⟨B,1,none⟩=some (.int .i64 q.1.n)/\w.cell? ⟨B,2,none⟩=some (.int .i64 q.1.s)/\w.cell? ⟨B,4,none⟩=some (.int .i64 q.1.lost)/\w.cell? ⟨B,5,none⟩=some (.int .i64 q.1.xW):=by
 obtain ⟨_,⟨bm,bd,cm,cd,X,_⟩,_⟩:=h;unfold bH at X;obtain ⟨k0,k1,k2,k3,k4,k5,_⟩:=X.cells13;exact ⟨k1,k2,k4,k5⟩
theorem St6.flag {w:World} {g:Nat} {a:Option Addr} {lb cb:Nat} {zs:List Int} {N B:Nat} {G:Int} {q:aq×List ai} {ds:List aH} {fm fd:List Nat} (h:St6 w g a lb cb zs N B G q ds fm fd) (hl:0<=q.1.lost):∃(k b cm:Nat) (f:Bool),q.1.lost=(k:Int)/\k<q.2.length/\w.cell? ⟨B,3,none⟩=some (.slice (some ⟨b,0,none⟩) q.2.length cm)/\w.cell? ⟨b,k*4+2,none⟩=some (.bool f):=by
 obtain ⟨n1,n2,n3,n4,n5,n6,n7,n8,n9⟩:=fS h.2.2.1;obtain ⟨_,⟨bm,bd,cm,cd,X,hm,_⟩,_⟩:=h;obtain ⟨k,hk⟩:=Int.eq_ofNat_of_zero_le hl;have hkl:k<q.2.length:=by omega
 obtain ⟨b,rfl⟩:=cY hm (by omega);obtain ⟨_,_,_,_,_,_,_,_,_,f,_,_,_,_,hf,_⟩:=gh hm (List.getElem?_eq_getElem hkl);unfold bH at X;exact ⟨k,b,cm,f,hk,hkl,X.cells13.2.2.2.1,hf⟩
theorem tG (w:World) (g:Nat) (a:Option Addr) (lb cb:Nat) (zs:List Int) (N B:Nat) (G:Int) (h:At6 w g a lb cb zs N B G) (hG:G<58000):
 Calls Tryz.prog 93 #[.pointer (some ⟨g,0,none⟩),.pointer (some ⟨B,0,none⟩)] w fun e w'=>e=.returned (.tuple #[])/\At6 w' g a lb cb zs N B (G+101)/\Fr N g w w':=by
 obtain ⟨q,ds,fm,fd,h⟩:=h;have S0:=aa h;have hgl:=h.1.lt;have hNl:=h.2.2.2.1.2.1;clear h;go_enter Tryz.func93,Tryz.ntmps93
 go_wp2_with fail
 refine (bX S0.out.1 14 (by omega) (by omega)).mono ?_
 rintro e w1 ⟨v,rfl,v0,v1,d1,b1⟩;have S1:=aa (S0.out.draw d1 b1);have B1:=aa (b1.fr hNl);have z1:=b1.size;clear d1 b1 S0;rcases (by omega:v=0∨v=1∨v=2∨v=3∨v=4∨v=5∨v=6∨v=7∨v=8∨v=9∨v=10∨v=11∨v=12∨v=13) with rfl|rfl|rfl|rfl|rfl|rfl|rfl|rfl|rfl|rfl|rfl|rfl|rfl|rfl
 . skip
   obtain ⟨n1,n2,n3,n4,n5,n6,n7,n8,n9⟩:=fS S1.out.2.2.1;obtain ⟨g1,g2,g3,g4⟩:=aB.1 n5;have hbn:1<=aN q.1.n q.1.s/\aN q.1.n q.1.s<=256:=by
    unfold aN;rw [if_pos n5];have h1:1*2<=q.1.s*(q.1.n-1):=Int.mul_le_mul g3 (by omega) (by omega) (by omega);have h2:q.1.s*(q.1.n-1)<=8*4:=Int.mul_le_mul g4 (by omega) (by omega) (by omega);omega
   have HBB:Hid (∀b:Int,0<=b->(b<aN q.1.n q.1.s∨b=0)->bU q.1.n q.1.s b=true):=fun b h0 h1=>aG.2 ⟨h0,by omega⟩;obtain ⟨c1,c2,c4,c5⟩:=S1.out.cells;clear n1 n2 n3 n4 n5 n6 n7 n8 n9 g1 g2 g3 g4;go_wp2_with fail
   refine (dD _ q.1.n q.1.s).mono ?_
   rintro e w2 ⟨rfl,b2⟩;have S2:=aa (S1.out.below b2);have B2:=aa (B1.out.trans (Fr.ofBelow b2 (by omega)));have z2:=b2.size;clear c1 c2 c4 c5 b2 S1 B1;generalize aN q.1.n q.1.s=bn at hbn HBB ⊢;go_wp2_with fail
   refine (bX S2.out.1 bn (by omega) (by omega)).mono ?_
   rintro e w3 ⟨b,rfl,b0,b1,d3,b3⟩;have S3:=aa (S2.out.draw d3 b3);have B3:=aa (B2.out.trans (b3.fr (by omega)));have z3:=b3.size;have hb:=HBB.out b b0 b1;clear d3 b3 S2 B2 b0 b1 HBB hbn;go_wp2_with fail
   refine (gV S3.out.1).mono ?_
   rintro e w4 ⟨n,rfl,hn,d4,b4⟩;have S4:=aa (S3.out.draw d4 b4);have B4:=aa (B3.out.trans (b4.fr (by omega)));clear d4 b4 S3 B3;have HC:=aa (set6 S4.out hb hn);clear hb hn S4;go_wp2_with fail
   refine HC.out.mono ?_
   rintro e w5 ⟨v,rfl,hA,hB⟩;have HA:=aa ((hA).more (show G<=G+101 by omega));have HB:=aa (B4.out.trans hB);clear hA hB HC;go_wp2
   refine bodyPost_end (v:=.tuple #[]) (results_none rfl _ _ _) rfl ?_
   exact ⟨rfl,HA.out,HB.out⟩
 . skip
   obtain ⟨n1,n2,n3,n4,n5,n6,n7,n8,n9⟩:=fS S1.out.2.2.1;obtain ⟨g1,g2,g3,g4⟩:=aB.1 n5;have hbn:1<=aN q.1.n q.1.s/\aN q.1.n q.1.s<=256:=by
    unfold aN;rw [if_pos n5];have h1:1*2<=q.1.s*(q.1.n-1):=Int.mul_le_mul g3 (by omega) (by omega) (by omega);have h2:q.1.s*(q.1.n-1)<=8*4:=Int.mul_le_mul g4 (by omega) (by omega) (by omega);omega
   have HBB:Hid (∀b:Int,0<=b->(b<aN q.1.n q.1.s∨b=0)->bU q.1.n q.1.s b=true):=fun b h0 h1=>aG.2 ⟨h0,by omega⟩;obtain ⟨c1,c2,c4,c5⟩:=S1.out.cells;clear n1 n2 n3 n4 n5 n6 n7 n8 n9 g1 g2 g3 g4;go_wp2_with fail
   refine (dD _ q.1.n q.1.s).mono ?_
   rintro e w2 ⟨rfl,b2⟩;have S2:=aa (S1.out.below b2);have B2:=aa (B1.out.trans (Fr.ofBelow b2 (by omega)));have z2:=b2.size;clear c1 c2 c4 c5 b2 S1 B1;generalize aN q.1.n q.1.s=bn at hbn HBB ⊢;go_wp2_with fail
   refine (bX S2.out.1 bn (by omega) (by omega)).mono ?_
   rintro e w3 ⟨b,rfl,b0,b1,d3,b3⟩;have S3:=aa (S2.out.draw d3 b3);have B3:=aa (B2.out.trans (b3.fr (by omega)));have z3:=b3.size;have hb:=HBB.out b b0 b1;clear d3 b3 S2 B2 b0 b1 HBB hbn;go_wp2_with fail
   refine (gV S3.out.1).mono ?_
   rintro e w4 ⟨n,rfl,hn,d4,b4⟩;have S4:=aa (S3.out.draw d4 b4);have B4:=aa (B3.out.trans (b4.fr (by omega)));clear d4 b4 S3 B3;have HC:=aa (set6 S4.out hb hn);clear hb hn S4;go_wp2_with fail
   refine HC.out.mono ?_
   rintro e w5 ⟨v,rfl,hA,hB⟩;have HA:=aa ((hA).more (show G<=G+101 by omega));have HB:=aa (B4.out.trans hB);clear hA hB HC;go_wp2
   refine bodyPost_end (v:=.tuple #[]) (results_none rfl _ _ _) rfl ?_
   exact ⟨rfl,HA.out,HB.out⟩
 . skip
   obtain ⟨n1,n2,n3,n4,n5,n6,n7,n8,n9⟩:=fS S1.out.2.2.1;obtain ⟨g1,g2,g3,g4⟩:=aB.1 n5;have hbn:1<=aN q.1.n q.1.s/\aN q.1.n q.1.s<=256:=by
    unfold aN;rw [if_pos n5];have h1:1*2<=q.1.s*(q.1.n-1):=Int.mul_le_mul g3 (by omega) (by omega) (by omega);have h2:q.1.s*(q.1.n-1)<=8*4:=Int.mul_le_mul g4 (by omega) (by omega) (by omega);omega
   have HBB:Hid (∀b:Int,0<=b->(b<aN q.1.n q.1.s∨b=0)->bU q.1.n q.1.s b=true):=fun b h0 h1=>aG.2 ⟨h0,by omega⟩;obtain ⟨c1,c2,c4,c5⟩:=S1.out.cells;clear n1 n2 n3 n4 n5 n6 n7 n8 n9 g1 g2 g3 g4;go_wp2_with fail
   refine (dD _ q.1.n q.1.s).mono ?_
   rintro e w2 ⟨rfl,b2⟩;have S2:=aa (S1.out.below b2);have B2:=aa (B1.out.trans (Fr.ofBelow b2 (by omega)));have z2:=b2.size;clear c1 c2 c4 c5 b2 S1 B1;generalize aN q.1.n q.1.s=bn at hbn HBB ⊢;go_wp2_with fail
   refine (bX S2.out.1 bn (by omega) (by omega)).mono ?_
   rintro e w3 ⟨b,rfl,b0,b1,d3,b3⟩;have S3:=aa (S2.out.draw d3 b3);have B3:=aa (B2.out.trans (b3.fr (by omega)));have z3:=b3.size;have hb:=HBB.out b b0 b1;clear d3 b3 S2 B2 b0 b1 HBB hbn;go_wp2_with fail
   refine (gV S3.out.1).mono ?_
   rintro e w4 ⟨n,rfl,hn,d4,b4⟩;have S4:=aa (S3.out.draw d4 b4);have B4:=aa (B3.out.trans (b4.fr (by omega)));clear d4 b4 S3 B3;have HC:=aa (set6 S4.out hb hn);clear hb hn S4;go_wp2_with fail
   refine HC.out.mono ?_
   rintro e w5 ⟨v,rfl,hA,hB⟩;have HA:=aa ((hA).more (show G<=G+101 by omega));have HB:=aa (B4.out.trans hB);clear hA hB HC;go_wp2
   refine bodyPost_end (v:=.tuple #[]) (results_none rfl _ _ _) rfl ?_
   exact ⟨rfl,HA.out,HB.out⟩
 . skip
   obtain ⟨n1,n2,n3,n4,n5,n6,n7,n8,n9⟩:=fS S1.out.2.2.1;obtain ⟨g1,g2,g3,g4⟩:=aB.1 n5;have hbn:1<=aN q.1.n q.1.s/\aN q.1.n q.1.s<=256:=by
    unfold aN;rw [if_pos n5];have h1:1*2<=q.1.s*(q.1.n-1):=Int.mul_le_mul g3 (by omega) (by omega) (by omega);have h2:q.1.s*(q.1.n-1)<=8*4:=Int.mul_le_mul g4 (by omega) (by omega) (by omega);omega
   have HBB:Hid (∀b:Int,0<=b->(b<aN q.1.n q.1.s∨b=0)->bU q.1.n q.1.s b=true):=fun b h0 h1=>aG.2 ⟨h0,by omega⟩;obtain ⟨c1,c2,c4,c5⟩:=S1.out.cells;clear n1 n2 n3 n4 n5 n6 n7 n8 n9 g1 g2 g3 g4;go_wp2_with fail
   refine (dD _ q.1.n q.1.s).mono ?_
   rintro e w2 ⟨rfl,b2⟩;have S2:=aa (S1.out.below b2);have B2:=aa (B1.out.trans (Fr.ofBelow b2 (by omega)));have z2:=b2.size;clear c1 c2 c4 c5 b2 S1 B1;generalize aN q.1.n q.1.s=bn at hbn HBB ⊢;go_wp2_with fail
   refine (bX S2.out.1 bn (by omega) (by omega)).mono ?_
   rintro e w3 ⟨b,rfl,b0,b1,d3,b3⟩;have S3:=aa (S2.out.draw d3 b3);have B3:=aa (B2.out.trans (b3.fr (by omega)));have z3:=b3.size;have hb:=HBB.out b b0 b1;clear d3 b3 S2 B2 b0 b1 HBB hbn;go_wp2_with fail
   refine (gV S3.out.1).mono ?_
   rintro e w4 ⟨n,rfl,hn,d4,b4⟩;have S4:=aa (S3.out.draw d4 b4);have B4:=aa (B3.out.trans (b4.fr (by omega)));clear d4 b4 S3 B3;have HC:=aa (set6 S4.out hb hn);clear hb hn S4;go_wp2_with fail
   refine HC.out.mono ?_
   rintro e w5 ⟨v,rfl,hA,hB⟩;have HA:=aa ((hA).more (show G<=G+101 by omega));have HB:=aa (B4.out.trans hB);clear hA hB HC;go_wp2
   refine bodyPost_end (v:=.tuple #[]) (results_none rfl _ _ _) rfl ?_
   exact ⟨rfl,HA.out,HB.out⟩
 . skip
   obtain ⟨_,_,_,_,n5,_⟩:=fS S1.out.2.2.1;obtain ⟨_,_,g3,g4⟩:=aB.1 n5;obtain ⟨c1,c2,c4,c5⟩:=S1.out.cells;clear n5;go_wp2_with fail
   refine (bX S1.out.1 q.1.s (by omega) (by omega)).mono ?_
   rintro e w3 ⟨b,rfl,b0,b1,d3,b3⟩;have S3:=aa (S1.out.draw d3 b3);have B3:=aa (B1.out.trans (b3.fr (by omega)));clear d3 b3 S1 B1 c1 c2 c4 c5 b0 b1;have HC:=aa (tF S3.out b);clear S3;go_wp2_with fail
   refine HC.out.mono ?_
   rintro e w5 ⟨v,rfl,hA,hB⟩;have HA:=aa ((hA).more (show G+1<=G+101 by omega));have HB:=aa (B3.out.trans hB);clear hA hB HC;go_wp2
   refine bodyPost_end (v:=.tuple #[]) (results_none rfl _ _ _) rfl ?_
   exact ⟨rfl,HA.out,HB.out⟩
 . skip
   obtain ⟨_,_,_,_,n5,_⟩:=fS S1.out.2.2.1;obtain ⟨_,_,g3,g4⟩:=aB.1 n5;obtain ⟨c1,c2,c4,c5⟩:=S1.out.cells;clear n5;go_wp2_with fail
   refine (bX S1.out.1 q.1.s (by omega) (by omega)).mono ?_
   rintro e w3 ⟨b,rfl,b0,b1,d3,b3⟩;have S3:=aa (S1.out.draw d3 b3);have B3:=aa (B1.out.trans (b3.fr (by omega)));clear d3 b3 S1 B1 c1 c2 c4 c5 b0 b1;have HC:=aa (tF S3.out b);clear S3;go_wp2_with fail
   refine HC.out.mono ?_
   rintro e w5 ⟨v,rfl,hA,hB⟩;have HA:=aa ((hA).more (show G+1<=G+101 by omega));have HB:=aa (B3.out.trans hB);clear hA hB HC;go_wp2
   refine bodyPost_end (v:=.tuple #[]) (results_none rfl _ _ _) rfl ?_
   exact ⟨rfl,HA.out,HB.out⟩
 . skip
   obtain ⟨_,_,_,_,n5,_⟩:=fS S1.out.2.2.1;obtain ⟨_,_,g3,g4⟩:=aB.1 n5;obtain ⟨c1,c2,c4,c5⟩:=S1.out.cells;clear n5;go_wp2_with fail
   refine (bX S1.out.1 q.1.s (by omega) (by omega)).mono ?_
   rintro e w3 ⟨b,rfl,b0,b1,d3,b3⟩;have S3:=aa (S1.out.draw d3 b3);have B3:=aa (B1.out.trans (b3.fr (by omega)));clear d3 b3 S1 B1 c1 c2 c4 c5 b0 b1;have HC:=aa (tF S3.out b);clear S3;go_wp2_with fail
   refine HC.out.mono ?_
   rintro e w5 ⟨v,rfl,hA,hB⟩;have HA:=aa ((hA).more (show G+1<=G+101 by omega));have HB:=aa (B3.out.trans hB);clear hA hB HC;go_wp2
   refine bodyPost_end (v:=.tuple #[]) (results_none rfl _ _ _) rfl ?_
   exact ⟨rfl,HA.out,HB.out⟩
 . skip
   have HC:=aa (all6 S1.out);clear S1;go_wp2_with fail
   refine HC.out.mono ?_
   rintro e w5 ⟨v,rfl,hA,hB⟩;have HA:=aa ((hA).more (show G+101<=G+101 by omega));have HB:=aa (B1.out.trans hB);clear hA hB HC;go_wp2
   refine bodyPost_end (v:=.tuple #[]) (results_none rfl _ _ _) rfl ?_
   exact ⟨rfl,HA.out,HB.out⟩
 . skip
   obtain ⟨n1,n2,n3,n4,n5,n6,n7,n8,n9⟩:=fS S1.out.2.2.1;obtain ⟨g1,g2,g3,g4⟩:=aB.1 n5;go_wp2_with fail
   refine (oI S1.out.1 3 (by omega) (by omega)).mono ?_
   rintro e w2 ⟨t,rfl,d2,b2⟩;have S2:=aa (S1.out.draw d2 b2);have B2:=aa (B1.out.trans (b2.fr (by omega)));have z2:=b2.size;clear d2 b2 S1 B1;obtain ⟨c1,c2,c4,c5⟩:=S2.out.cells;cases t
   . skip
     have HA:=aa ((show At6 w2 g a lb cb zs N B G from ⟨_,_,_,_,S2.out⟩).more (show G<=G+101 by omega));have HB:=aa (B2.out);go_wp2
     refine bodyPost_end (v:=.tuple #[]) (results_none rfl _ _ _) rfl ?_
     exact ⟨rfl,HA.out,HB.out⟩
   by_cases hl:q.1.lost=-1
   . have HL:=aa hl
     rw [hl] at c4;clear hl;go_wp2_with fail
     refine (bX S2.out.1 q.1.n (by omega) (by omega)).mono ?_
     rintro e w3 ⟨b,rfl,b0,b1,d3,b3⟩;have S3:=aa (S2.out.draw d3 b3);have B3:=aa (B2.out.trans (b3.fr (by omega)));clear d3 b3 S2 B2 c1 c2 c4 c5;have HC:=aa (fail6 S3.out (by omega) HL.out b0 (by omega));clear S3 b0 b1;go_wp2_with fail
     refine HC.out.mono ?_
     rintro e w5 ⟨rfl,hA,hB⟩;have HA:=aa ((hA).more (show G+1<=G+101 by omega));have HB:=aa (B3.out.trans hB);clear hA hB HC;go_wp2
     refine bodyPost_end (v:=.tuple #[]) (results_none rfl _ _ _) rfl ?_
     exact ⟨rfl,HA.out,HB.out⟩
   have hl2:(q.1.lost==-1)=false:=by simpa using hl
   have HA:=aa (((show At6 w2 g a lb cb zs N B G from ⟨_,_,_,_,S2.out⟩)).more (show G<=G+101 by omega));have HB:=aa (B2.out);clear hl;go_wp2
   refine bodyPost_end (v:=.tuple #[]) (results_none rfl _ _ _) rfl ?_
   exact ⟨rfl,HA.out,HB.out⟩
 . skip
   obtain ⟨n1,n2,n3,n4,n5,n6,n7,n8,n9⟩:=fS S1.out.2.2.1;obtain ⟨c1,c2,c4,c5⟩:=S1.out.cells;have HA0:=aa (show At6 w1 g a lb cb zs N B G from ⟨_,_,_,_,S1.out⟩);by_cases hl:0<=q.1.lost
   . obtain ⟨k,b,cm,f,hk,hkl,c3,cf⟩:=S1.out.flag hl
     have HK:=aa hk;rw [hk] at c4;have k1:(0:Int)<=(k:Int):=by omega
     have k2:(k:Int)<(q.2.length:Int):=by omega
     clear hk hl;cases f
     . skip
       go_wp2_with fail
       go_quiet (fail)
       have bq:Below w1.heap.size w1 (w1.drewN nq):=((aP.refl w1).drewN nq).below _;have S2:=aa (S1.out.below bq);have B2:=aa (B1.out.trans (Fr.ofBelow bq (by omega)));clear bq S1 B1 HA0;generalize w1.drewN nq=w2 at S2 B2 ⊢;have HA:=aa (((show At6 w2 g a lb cb zs N B G from ⟨_,_,_,_,S2.out⟩)).more (show G<=G+101 by omega));have HB:=aa (B2.out);go_wp2
       refine bodyPost_end (v:=.tuple #[]) (results_none rfl _ _ _) rfl ?_
       exact ⟨rfl,HA.out,HB.out⟩
     skip
     go_wp2_with fail
     go_quiet (fail)
     have bq:Below w1.heap.size w1 (w1.drewN nq):=((aP.refl w1).drewN nq).below _;have S2:=aa (S1.out.below bq);have B2:=aa (B1.out.trans (Fr.ofBelow bq (by omega)));clear bq S1 B1 HA0;generalize w1.drewN nq=w2 at S2 B2 ⊢;have HC:=aa (spare6 S2.out (by omega) (by have:=HK.out;omega));clear S2;go_wp2_with fail
     refine HC.out.mono ?_
     rintro e w5 ⟨v,rfl,hA,hB⟩;have HA:=aa ((hA).more (show G+1<=G+101 by omega));have HB:=aa (B2.out.trans hB);clear hA hB HC;go_wp2
     refine bodyPost_end (v:=.tuple #[]) (results_none rfl _ _ _) rfl ?_
     exact ⟨rfl,HA.out,HB.out⟩
   have hl2:q.1.lost=-1:=by have:=qV S1.out.2.2.1;omega
   rw [hl2] at c4;clear hl hl2;go_wp2_with fail
   go_quiet (fail)
   have bq:Below w1.heap.size w1 (w1.drewN nq):=((aP.refl w1).drewN nq).below _;have S2:=aa (S1.out.below bq);have B2:=aa (B1.out.trans (Fr.ofBelow bq (by omega)));clear bq S1 B1 HA0;generalize w1.drewN nq=w2 at S2 B2 ⊢;have HA:=aa (((show At6 w2 g a lb cb zs N B G from ⟨_,_,_,_,S2.out⟩)).more (show G<=G+101 by omega));have HB:=aa (B2.out);go_wp2
   refine bodyPost_end (v:=.tuple #[]) (results_none rfl _ _ _) rfl ?_
   exact ⟨rfl,HA.out,HB.out⟩
 . skip
   obtain ⟨n1,n2,n3,n4,n5,n6,n7,n8,n9⟩:=fS S1.out.2.2.1;obtain ⟨c1,c2,c4,c5⟩:=S1.out.cells;have HA0:=aa (show At6 w1 g a lb cb zs N B G from ⟨_,_,_,_,S1.out⟩);by_cases hl:0<=q.1.lost
   . obtain ⟨k,b,cm,f,hk,hkl,c3,cf⟩:=S1.out.flag hl
     have HK:=aa hk;rw [hk] at c4;have k1:(0:Int)<=(k:Int):=by omega
     have k2:(k:Int)<(q.2.length:Int):=by omega
     clear hk hl;cases f
     . by_cases hbs:q.1.xW<q.1.s
       . have HS:=aa hbs
         go_wp2_with fail
         go_quiet (fail)
         have bq:Below w1.heap.size w1 (w1.drewN nq):=((aP.refl w1).drewN nq).below _;have S2:=aa (S1.out.below bq);have B2:=aa (B1.out.trans (Fr.ofBelow bq (by omega)));clear bq S1 B1 HA0;generalize w1.drewN nq=w2 at S2 B2 ⊢;have HC:=aa (step6 S2.out (by have:=HK.out;omega) HS.out);clear S2;go_wp2_with fail
         refine HC.out.mono ?_
         rintro e w5 ⟨v,rfl,hA,hB⟩;have HA:=aa ((hA).more (show G<=G+101 by omega));have HB:=aa (B2.out.trans hB);clear hA hB HC;go_wp2
         refine bodyPost_end (v:=.tuple #[]) (results_none rfl _ _ _) rfl ?_
         exact ⟨rfl,HA.out,HB.out⟩
       skip
       go_wp2_with fail
       go_quiet (fail)
       have bq:Below w1.heap.size w1 (w1.drewN nq):=((aP.refl w1).drewN nq).below _;have S2:=aa (S1.out.below bq);have B2:=aa (B1.out.trans (Fr.ofBelow bq (by omega)));clear bq S1 B1 HA0;generalize w1.drewN nq=w2 at S2 B2 ⊢;have HA:=aa (((show At6 w2 g a lb cb zs N B G from ⟨_,_,_,_,S2.out⟩)).more (show G<=G+101 by omega));have HB:=aa (B2.out);go_wp2
       refine bodyPost_end (v:=.tuple #[]) (results_none rfl _ _ _) rfl ?_
       exact ⟨rfl,HA.out,HB.out⟩
     skip
     go_wp2_with fail
     go_quiet (fail)
     have bq:Below w1.heap.size w1 (w1.drewN nq):=((aP.refl w1).drewN nq).below _;have S2:=aa (S1.out.below bq);have B2:=aa (B1.out.trans (Fr.ofBelow bq (by omega)));clear bq S1 B1 HA0;generalize w1.drewN nq=w2 at S2 B2 ⊢;have HA:=aa (((show At6 w2 g a lb cb zs N B G from ⟨_,_,_,_,S2.out⟩)).more (show G<=G+101 by omega));have HB:=aa (B2.out);go_wp2
     refine bodyPost_end (v:=.tuple #[]) (results_none rfl _ _ _) rfl ?_
     exact ⟨rfl,HA.out,HB.out⟩
   have hl2:q.1.lost=-1:=by have:=qV S1.out.2.2.1;omega
   rw [hl2] at c4;clear hl hl2;go_wp2_with fail
   go_quiet (fail)
   have bq:Below w1.heap.size w1 (w1.drewN nq):=((aP.refl w1).drewN nq).below _;have S2:=aa (S1.out.below bq);have B2:=aa (B1.out.trans (Fr.ofBelow bq (by omega)));clear bq S1 B1 HA0;generalize w1.drewN nq=w2 at S2 B2 ⊢;have HA:=aa (((show At6 w2 g a lb cb zs N B G from ⟨_,_,_,_,S2.out⟩)).more (show G<=G+101 by omega));have HB:=aa (B2.out);go_wp2
   refine bodyPost_end (v:=.tuple #[]) (results_none rfl _ _ _) rfl ?_
   exact ⟨rfl,HA.out,HB.out⟩
 . skip
   obtain ⟨n1,n2,n3,n4,n5,n6,n7,n8,n9⟩:=fS S1.out.2.2.1;obtain ⟨c1,c2,c4,c5⟩:=S1.out.cells;have HA0:=aa (show At6 w1 g a lb cb zs N B G from ⟨_,_,_,_,S1.out⟩);by_cases hl:0<=q.1.lost
   . obtain ⟨k,b,cm,f,hk,hkl,c3,cf⟩:=S1.out.flag hl
     have HK:=aa hk;rw [hk] at c4;have k1:(0:Int)<=(k:Int):=by omega
     have k2:(k:Int)<(q.2.length:Int):=by omega
     clear hk hl;cases f
     . by_cases hbs:q.1.xW<q.1.s
       . have HS:=aa hbs
         go_wp2_with fail
         go_quiet (fail)
         have bq:Below w1.heap.size w1 (w1.drewN nq):=((aP.refl w1).drewN nq).below _;have S2:=aa (S1.out.below bq);have B2:=aa (B1.out.trans (Fr.ofBelow bq (by omega)));clear bq S1 B1 HA0;generalize w1.drewN nq=w2 at S2 B2 ⊢;have HC:=aa (step6 S2.out (by have:=HK.out;omega) HS.out);clear S2;go_wp2_with fail
         refine HC.out.mono ?_
         rintro e w5 ⟨v,rfl,hA,hB⟩;have HA:=aa ((hA).more (show G<=G+101 by omega));have HB:=aa (B2.out.trans hB);clear hA hB HC;go_wp2
         refine bodyPost_end (v:=.tuple #[]) (results_none rfl _ _ _) rfl ?_
         exact ⟨rfl,HA.out,HB.out⟩
       skip
       go_wp2_with fail
       go_quiet (fail)
       have bq:Below w1.heap.size w1 (w1.drewN nq):=((aP.refl w1).drewN nq).below _;have S2:=aa (S1.out.below bq);have B2:=aa (B1.out.trans (Fr.ofBelow bq (by omega)));clear bq S1 B1 HA0;generalize w1.drewN nq=w2 at S2 B2 ⊢;have HA:=aa (((show At6 w2 g a lb cb zs N B G from ⟨_,_,_,_,S2.out⟩)).more (show G<=G+101 by omega));have HB:=aa (B2.out);go_wp2
       refine bodyPost_end (v:=.tuple #[]) (results_none rfl _ _ _) rfl ?_
       exact ⟨rfl,HA.out,HB.out⟩
     skip
     go_wp2_with fail
     go_quiet (fail)
     have bq:Below w1.heap.size w1 (w1.drewN nq):=((aP.refl w1).drewN nq).below _;have S2:=aa (S1.out.below bq);have B2:=aa (B1.out.trans (Fr.ofBelow bq (by omega)));clear bq S1 B1 HA0;generalize w1.drewN nq=w2 at S2 B2 ⊢;have HA:=aa (((show At6 w2 g a lb cb zs N B G from ⟨_,_,_,_,S2.out⟩)).more (show G<=G+101 by omega));have HB:=aa (B2.out);go_wp2
     refine bodyPost_end (v:=.tuple #[]) (results_none rfl _ _ _) rfl ?_
     exact ⟨rfl,HA.out,HB.out⟩
   have hl2:q.1.lost=-1:=by have:=qV S1.out.2.2.1;omega
   rw [hl2] at c4;clear hl hl2;go_wp2_with fail
   go_quiet (fail)
   have bq:Below w1.heap.size w1 (w1.drewN nq):=((aP.refl w1).drewN nq).below _;have S2:=aa (S1.out.below bq);have B2:=aa (B1.out.trans (Fr.ofBelow bq (by omega)));clear bq S1 B1 HA0;generalize w1.drewN nq=w2 at S2 B2 ⊢;have HA:=aa (((show At6 w2 g a lb cb zs N B G from ⟨_,_,_,_,S2.out⟩)).more (show G<=G+101 by omega));have HB:=aa (B2.out);go_wp2
   refine bodyPost_end (v:=.tuple #[]) (results_none rfl _ _ _) rfl ?_
   exact ⟨rfl,HA.out,HB.out⟩
 . skip
   have HC:=aa (check6 S1.out (by omega));clear S1;go_wp2_with fail
   refine HC.out.mono ?_
   rintro e w5 ⟨rfl,hA,hB⟩;have HA:=aa ((hA).more (show G+1<=G+101 by omega));have HB:=aa (B1.out.trans hB);clear hA hB HC;go_wp2
   refine bodyPost_end (v:=.tuple #[]) (results_none rfl _ _ _) rfl ?_
   exact ⟨rfl,HA.out,HB.out⟩
 skip
 obtain ⟨n1,n2,n3,n4,n5,n6,n7,n8,n9⟩:=fS S1.out.2.2.1;obtain ⟨g1,g2,g3,g4⟩:=aB.1 n5;obtain ⟨c1,c2,c4,c5⟩:=S1.out.cells;by_cases hl:q.1.lost=-1
 . rw [hl] at c4
   clear hl;go_wp2_with fail
   refine (oI S1.out.1 3 (by omega) (by omega)).mono ?_
   rintro e w2 ⟨t,rfl,d2,b2⟩;have S2:=aa (S1.out.draw d2 b2);have B2:=aa (B1.out.trans (b2.fr (by omega)));have z2:=b2.size;clear d2 b2 S1 B1 c1 c2 c4 c5;obtain ⟨c1,c2,c4,c5⟩:=S2.out.cells;cases t
   . skip
     have HA:=aa (((show At6 w2 g a lb cb zs N B G from ⟨_,_,_,_,S2.out⟩)).more (show G<=G+101 by omega));have HB:=aa (B2.out);go_wp2
     refine bodyPost_end (v:=.tuple #[]) (results_none rfl _ _ _) rfl ?_
     exact ⟨rfl,HA.out,HB.out⟩
   skip
   go_wp2_with fail
   refine (bX S2.out.1 q.1.n (by omega) (by omega)).mono ?_
   rintro e w3 ⟨m0,rfl,m1,m2,d3,b3⟩;have S3:=aa (S2.out.draw d3 b3);have B3:=aa (B2.out.trans (b3.fr (by omega)));have z3:=b3.size;clear d3 b3 S2 B2 c1 c2 c4 c5;obtain ⟨m,rfl⟩:=Int.eq_ofNat_of_zero_le m1;have hml:m<q.2.length:=by omega
   have hdj:q.2[m]?=some (q.2[m]'hml):=List.getElem?_eq_getElem hml;generalize q.2[m]'hml=d at hdj;obtain ⟨D3,A3,G3,gB3,gm3,gd3⟩:=S3.out;have S3d:=S3.out.below ((Below.refl w3.heap.size w3).drew);obtain ⟨bm,bd,cm,cd,X,hmm,hdd,hr,r1,r2⟩:=A3;obtain ⟨gr,rfl⟩:=cY hmm (by omega);obtain ⟨hgl2,a0,a1,a3,c0,c1,c3,ss,cs,f,bs,rfl,q0,q1,q2,q3,p0,p1,p3⟩:=gh hmm hdj;have hgm:gr∈fm:=by
    rcases hmm.1 with ⟨h1,_⟩|⟨_,_,_,_,h1,_,_,_,_,h6,_⟩
    . simp at h1
    simp only [List.cons.injEq,Value.slice.injEq,Option.some.injEq,Addr.mk.injEq,and_true] at h1;rw [h6,h1.1];exact List.mem_cons_self
   have X0:=X;unfold bH at X0;obtain ⟨k0,k1,k2,k3,k4,k5,k6,k7,k8,k9,k10,k11,k12⟩:=X0.cells13;have lB:=X.lt;have hwt:=fL (n2 m _ hdj) f;dsimp only at hwt
   have ggr:=gm3 gr hgm;have hS:w3.drew.cell? ⟨B,2,none⟩=some (.int .i64 q.1.s)/\w3.drew.cell? ⟨B,3,none⟩=some (.slice (some ⟨gr,0,none⟩) q.2.length cm)/\w3.drew.cell? ⟨gr,m*4,none⟩=some (.slice a0 ss.length c0)/\w3.drew.cell? ⟨gr,m*4+1,none⟩=some (.slice a1 cs.length c1)/\w3.drew.cell? ⟨gr,m*4+2,none⟩=some (.bool f)/\w3.drew.cell? ⟨gr,m*4+3,none⟩=some (.slice a3 bs.length c3):=⟨k2,k3,q0,q1,q2,q3⟩;have XH:=aa X;have MH:=aa hmm;have DH:=aa hdd;have DJ:=aa hdj;have P0:=aa p0;have P1:=aa p1;have P3:=aa p3;have HG3:=aa G3;have i1:(0:Int)<=(m:Int):=by omega
   have i2:(m:Int)<(q.2.length:Int):=by omega
   clear X X0 hmm hdd hdj p0 p1 p3 D3 G3 S3 k0 k1 k2 k3 k4 k5 k6 k7 k8 k9 k10 k11 k12 q0 q1 q2 q3 n1 n2 n3 n4 n5 n6 n7 n8 n9;go_wp2_with fail
   refine ao.start (S:=fun w'=>w'.cell? ⟨B,2,none⟩=some (.int .i64 q.1.s)/\w'.cell? ⟨B,3,none⟩=some (.slice (some ⟨gr,0,none⟩) q.2.length cm)/\w'.cell? ⟨gr,m*4,none⟩=some (.slice a0 ss.length c0)/\w'.cell? ⟨gr,m*4+1,none⟩=some (.slice a1 cs.length c1)/\w'.cell? ⟨gr,m*4+2,none⟩=some (.bool f)/\w'.cell? ⟨gr,m*4+3,none⟩=some (.slice a3 bs.length c3)) (k:=22) (by kernel_rfl) ?_
   refine ao.t 0 hS ?_
   refine ao.t 1 hS ?_
   refine ao.t 2 hS ?_
   refine ao.t 3 hS ?_
   refine ao.t 4 hS ?_
   refine ao.t 5 hS ?_
   refine ao.t 6 hS ?_
   refine ao.t 7 hS ?_
   refine ao.t 8 hS ?_
   refine ao.t 9 hS ?_
   refine ao.t 10 hS ?_
   refine ao.t 11 hS ?_
   refine ao.t 12 hS ?_
   refine ao.t 13 hS ?_
   refine ao.t 14 hS ?_
   refine ao.t 15 hS ?_
   refine ao.t 16 hS ?_
   refine ao.t 17 hS ?_
   refine ao.one (i:=18) (by kernel_rfl) rfl (fun K hK=>?_)
   go_simp
   refine (bX S3d.1 q.1.s (by omega) (by omega)).mono ?_
   rintro e w4 ⟨b,rfl,b0,b1,d4,b4⟩;have b4:But g (g+1) w3 w4:=⟨b4.os,b4.tape,b4.output,b4.size,b4.block⟩;have z4:w3.heap.size<=w4.heap.size:=b4.size;have kB:w4.heap[B]?=w3.heap[B]?:=b4.block B lB (by omega);have kG:w4.heap[gr]?=w3.heap[gr]?:=b4.block gr hgl2 (by omega);obtain ⟨h1,h2,h3,h4,h5,h6⟩:=hS;have hS4:w4.cell? ⟨B,2,none⟩=some (.int .i64 q.1.s)/\w4.cell? ⟨B,3,none⟩=some (.slice (some ⟨gr,0,none⟩) q.2.length cm)/\w4.cell? ⟨gr,m*4,none⟩=some (.slice a0 ss.length c0)/\w4.cell? ⟨gr,m*4+1,none⟩=some (.slice a1 cs.length c1)/\w4.cell? ⟨gr,m*4+2,none⟩=some (.bool f)/\w4.cell? ⟨gr,m*4+3,none⟩=some (.slice a3 bs.length c3):=⟨(dq kB 2).trans h1,(dq kB 3).trans h2,(dq kG _).trans h3,(dq kG _).trans h4,(dq kG _).trans h5,(dq kG _).trans h6⟩;go_wp2_with fail
   refine hK.out _ _ (fun _=>hS4) ?_
   clear hK K h1 h2 h3 h4 h5 h6;refine ao.one (i:=19) (by kernel_rfl) rfl (fun K hK=>?_)
   go_simp
   refine (cF _ b).mono ?_
   rintro e w5 ⟨rfl,hw5⟩;subst w5;go_wp2_with fail
   refine hK.out _ _ (fun _=>hS4) ?_
   clear hK K;have T4:aA [g] w3 w4:=⟨b4.os,b4.tape,b4.output,b4.size,fun k hk hf=>b4.block k hk (by simp at hf;omega)⟩;have X4:=XH.out.kept kB;have M4:=MH.out.kept T4 (fun b hb hm=>by have:=gm3 b hb;simp at hm;omega);have E4:=DH.out.kept T4 (fun b hb hm=>by have:=gd3 b hb;simp at hm;omega);obtain ⟨_,x0,x1,x3,y0,y1,y3,ss1,cs1,f1,bs1,hde,q0,q1,q2,q3,p0,p1,p3⟩:=gh M4 DJ.out;simp only [Prod.mk.injEq] at hde
   obtain ⟨rfl,rfl,rfl,rfl⟩:=hde;have e0:=hS4.2.2.1.symm.trans q0;have e1:=hS4.2.2.2.1.symm.trans q1;have e3:=hS4.2.2.2.2.2.symm.trans q3;simp only [Option.some.injEq,Value.slice.injEq,true_and] at e0 e1 e3
   obtain ⟨rfl,rfl⟩:=e0;obtain ⟨rfl,rfl⟩:=e1;obtain ⟨rfl,rfl⟩:=e3;refine ao.one (i:=20) (by kernel_rfl) rfl (fun K hK=>?_)
   go_simp
   refine (iD _ 119 _ _ _ _ _ _ _ _ _ ss cs f bs (bE b) p0 p1 p3 (by omega)).mono ?_
   rintro e w6 ⟨u0,u1,u3,rfl,o6,b6⟩;obtain ⟨e0,l0,f0,e1,l1,f1,e3,l3,f3,hv0,hv1,hv3⟩:=cU o6;subst hv0 hv1 hv3;have z6:=b6.size;have X6:=X4.below b6 X4.lt;obtain ⟨fpx,mx,rx⟩:=o6.mine;obtain ⟨cOld,fz,_,fm9,hA9,hMv9⟩:=iz X4 M4 E4 hr r1 r2 b6 hml mx (fun b hb=>(rx b hb).1);obtain ⟨o0,t0⟩:=cOld 0 (by omega);obtain ⟨o1,t1⟩:=cOld 1 (by omega);obtain ⟨o2,t2⟩:=cOld 2 (by omega);obtain ⟨o3,t3⟩:=cOld 3 (by omega);rw [Nat.add_zero] at t0;obtain ⟨h1,h2,h3,h4,h5,h6⟩:=hS4;have lG4:gr<w4.heap.size:=by omega
   have lB4:B<w4.heap.size:=by omega
   have hS6:w6.cell? ⟨B,2,none⟩=some (.int .i64 q.1.s)/\w6.cell? ⟨B,3,none⟩=some (.slice (some ⟨gr,0,none⟩) q.2.length cm)/\w6.cell? ⟨gr,m*4,none⟩=some (.slice a0 ss.length c0)/\w6.cell? ⟨gr,m*4+1,none⟩=some (.slice a1 cs.length c1)/\w6.cell? ⟨gr,m*4+2,none⟩=some (.bool f)/\w6.cell? ⟨gr,m*4+3,none⟩=some (.slice a3 bs.length c3):=⟨(b6.cell (p:=⟨B,2,none⟩) lB4).trans h1,(b6.cell (p:=⟨B,3,none⟩) lB4).trans h2,(b6.cell (p:=⟨gr,m*4,none⟩) lG4).trans h3,(b6.cell (p:=⟨gr,m*4+1,none⟩) lG4).trans h4,(b6.cell (p:=⟨gr,m*4+2,none⟩) lG4).trans h5,(b6.cell (p:=⟨gr,m*4+3,none⟩) lG4).trans h6⟩;have HGD:=aa (tE HG3.out DJ.out (bE b));have SN:Hid (At6 (gL w6 gr (m*4) (.slice e0 l0 f0) (.slice e1 l1 f1) (.bool f) (.slice e3 l3 f3)) g a lb cb zs N B G/\Fr N g w4 (gL w6 gr (m*4) (.slice e0 l0 f0) (.slice e1 l1 f1) (.bool f) (.slice e3 l3 f3))):=oH (q:=q) (q':=(q.1,q.2.set m (ss,cs,f,jh ss cs bs (bE b)))) (show St6 w4 g a lb cb zs N B G q ds fm fd from ⟨d4,⟨_,_,_,_,X4,M4,E4,hr,r1,r2⟩,HG3.out,⟨gB3.1,by omega,gB3.2.2⟩,gm3,gd3⟩) hA9 hMv9 HGD.out;unfold gL at SN;have B4:=aa (B3.out.trans (b4.fr (by omega)));go_wp2_with fail
   refine hK.out _ _ (fun _=>hS6) ?_
   clear hK K X4 M4 E4 X6 o6 b6 mx rx cOld hA9 hMv9 d4 b4 T4 h1 h2 h3 h4 h5 h6 q0 q1 q2 q3 p0 p1 p3 HGD;refine ao.one (i:=21) (by kernel_rfl) rfl (fun K hK=>?_)
   go_simp
   refine hK.out _ _ (fun _=>hS6) ?_
   clear hK K;refine ao.one (i:=22) (by kernel_rfl) rfl (fun K hK=>?_)
   go_simp
   refine hK.out _ _ (fun h=>absurd rfl h) ?_
   clear hK K;refine ao.done (by kernel_rfl) ?_ _
   have HA:=aa (SN.out.1.more (show G<=G+101 by omega));have HB:=aa (B4.out.trans SN.out.2);clear SN hS6 t0 t1 t2 t3 fz;go_wp2
   refine bodyPost_end (v:=.tuple #[]) (results_none rfl _ _ _) rfl ?_
   exact ⟨rfl,HA.out,HB.out⟩
 have hl2:(q.1.lost==-1)=false:=by simpa using hl
 have HA0:=aa (show At6 w1 g a lb cb zs N B G from ⟨_,_,_,_,S1.out⟩);have HA:=aa ((HA0.out).more (show G<=G+101 by omega));have HB:=aa (B1.out);clear hl;go_wp2
 refine bodyPost_end (v:=.tuple #[]) (results_none rfl _ _ _) rfl ?_
 exact ⟨rfl,HA.out,HB.out⟩
end Go.Proofs.YtgjomldcnjjpaaaGreat
