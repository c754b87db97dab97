/-
 A disk that is MemOk stays so: new, flushed or fallen, written, spoilt. Plain lemmas. No condition.
-/
import Derived.Test.YtejeekndbnpmoaaGreatRowWritesBentSq4
import Derived.Test.YtejeekndbnpmoaaGreatRowWritesBentSq8
import Derived.Test.YtejeekndbnpmoaaGreatRowWritesBentSq6
import Derived.Test.YtejeekndbnpmoaaGreatRowWritesBentSq3
import Derived.Test.YtejeekndbnpmoaaGreatRowWritesBentSq7
import Derived.Test.YtejeekndbnpmoaaGreatRowWritesBentSq1

set_option maxRecDepth 100000
set_option maxHeartbeats 8000000
set_option linter.unusedSimpArgs false

namespace Go.Proofs.YtejeekndbnpmoaaGreat
open Go.RowKit

def pL (ss:List (List Int)) (cs:List (Int×List Int)) (f:Bool) (bs:List Int) (x:Sup):List (Int×List Int):=if eA x=true then dP ss cs f bs (x.gen % 2) (dN x) else cs
def pM (ss:List (List Int)) (cs:List (Int×List Int)) (f:Bool) (bs:List Int) (x:Sup):List Int:=if eA x=true then dQ ss cs f bs (x.gen % 2) (dN x) else bs
def iL (w:World) (B:Nat) (v0 v1 v2 v3:Value):World:=(((w.setCell ⟨B,0,none⟩ v0).setCell ⟨B,1,none⟩ v1).setCell ⟨B,2,none⟩ v2).setCell ⟨B,3,none⟩ v3
theorem fk (w:World) (B:Nat) (v0 v1 v2 v3:Value):But B (B+1) w (iL w B v0 v1 v2 v3):=by
 unfold iL;exact (((But.setCell (by omega) (by omega) _).trans (But.setCell (by omega) (by omega) _)).trans (But.setCell (by omega) (by omega) _)).trans (But.setCell (by omega) (by omega) _)
theorem im {w:World} {E:TypeId} {lo hi:Nat} {v0 v1 v3:Value} {f:Bool} {d:(bR E).D} (h:(bR E).Own w lo hi [v0,v1,.bool f,v3] d):∃a0 l0 c0 a1 l1 c1 a3 l3 c3,v0=.slice a0 l0 c0/\v1=.slice a1 l1 c1/\v3=.slice a3 l3 c3:=by
 obtain ⟨a0,c0,a1,c1,a3,c3,h0,h1,_,h3,_⟩:=oO h.rd;exact ⟨a0,_,c0,a1,_,c1,a3,_,c3,h0,h1,h3⟩
theorem tO (x:Sup):(dN x).length<=9:=by
 unfold dN;split<;>simp
theorem jy (w:World) (E:TypeId) (a0 a1 a3:Option Addr) (n0 c0 n1 c1 n3 c3:Nat) (ss:List (List Int)) (cs:List (Int×List Int)) (f:Bool) (bs:List Int) (x:Sup) (h0:aT.Rd w [.slice a0 n0 c0] ss) (h1:(aU E).Rd w [.slice a1 n1 c1] cs) (h3:aA.Rd w [.slice a3 n3 c3] bs) (hw:aQ (ss,cs,f,bs)<=2097152):
 Calls Tryz.prog 263 #[.agg #[.slice a0 n0 c0,.slice a1 n1 c1,.bool f,.slice a3 n3 c3],.agg #[.int .i64 x.id,.int .i64 x.gen,.int .i64 x.role,.int .i64 x.n,.int .i64 x.s,.int .i64 x.tail,.int .i64 x.lost,.int .i64 x.vG]] w fun e w'=>∃v0 v1 v3,e=.returned (.agg #[v0,v1,.bool f,v3])/\(bR 171).Own w' w.heap.size w'.heap.size [v0,v1,.bool f,v3] (ss,pL ss cs f bs x,f,pM ss cs f bs x)/\Below w.heap.size w w':=by
 have hA:=((ae w (.cells #[.slice a0 n0 c0,.slice a1 n1 c1,.bool f,.slice a3 n3 c3] 101)).alloc (by simp) (.cells #[.int .i64 x.id,.int .i64 x.gen,.int .i64 x.role,.int .i64 x.n,.int .i64 x.s,.int .i64 x.tail,.int .i64 x.lost,.int .i64 x.vG] 150)).alloc (by simp;omega) (.cells #[.slice none 0 0,.slice none 0 0,.bool false,.slice none 0 0] 101);have M0:=((Box.new w 101 #[.slice a0 n0 c0,.slice a1 n1 c1,.bool f,.slice a3 n3 c3]).alloc (.cells #[.int .i64 x.id,.int .i64 x.gen,.int .i64 x.role,.int .i64 x.n,.int .i64 x.s,.int .i64 x.tail,.int .i64 x.lost,.int .i64 x.vG] 150)).alloc (.cells #[.slice none 0 0,.slice none 0 0,.bool false,.slice none 0 0] 101);have S0:=(Box.new (w.alloc (.cells #[.slice a0 n0 c0,.slice a1 n1 c1,.bool f,.slice a3 n3 c3] 101)) 150 #[.int .i64 x.id,.int .i64 x.gen,.int .i64 x.role,.int .i64 x.n,.int .i64 x.s,.int .i64 x.tail,.int .i64 x.lost,.int .i64 x.vG]).alloc (.cells #[.slice none 0 0,.slice none 0 0,.bool false,.slice none 0 0] 101);have R0:=Box.new ((w.alloc (.cells #[.slice a0 n0 c0,.slice a1 n1 c1,.bool f,.slice a3 n3 c3] 101)).alloc (.cells #[.int .i64 x.id,.int .i64 x.gen,.int .i64 x.role,.int .i64 x.n,.int .i64 x.s,.int .i64 x.tail,.int .i64 x.lost,.int .i64 x.vG] 150)) 101 #[.slice none 0 0,.slice none 0 0,.bool false,.slice none 0 0];rw [World.size_alloc] at S0;rw [World.size_alloc,World.size_alloc] at R0;obtain ⟨x0,x1,x2,x3,x4,x5,x6,x7⟩:=S0.cells8;go_enter Tryz.func263,Tryz.ntmps263
 go_wp2_with fail
 generalize ((w.alloc (.cells #[.slice a0 n0 c0,.slice a1 n1 c1,.bool f,.slice a3 n3 c3] 101)).alloc (.cells #[.int .i64 x.id,.int .i64 x.gen,.int .i64 x.role,.int .i64 x.n,.int .i64 x.s,.int .i64 x.tail,.int .i64 x.lost,.int .i64 x.vG] 150)).alloc (.cells #[.slice none 0 0,.slice none 0 0,.bool false,.slice none 0 0] 101)=W at hA M0 S0 R0 x0 x1 x2 x3 x4 x5 x6 x7 ⊢;refine (iH _ x).mono ?_
 rintro e w1 ⟨rfl,b1⟩;have M1:=M0.below b1 M0.lt;have S1:=S0.below b1 S0.lt;have R1:=R0.below b1 R0.lt;have B1:=Below.andThen hA b1;clear x0 x1 x2 x3 x4 x5 x6 x7 M0 S0 R0 hA b1;obtain ⟨q0,q1,q2,q3⟩:=M1.cells4;have zR:=R1.lt;have zS:=S1.lt;have zM:=M1.lt;by_cases hx:eA x=true
 . have hg:=(eB.1 hx).2.2.2.2.1
   have e1:x.gen.tmod 2=x.gen % 2:=Int.tmod_eq_emod_of_nonneg hg.1;have HC:Hid (pL ss cs f bs x=dP ss cs f bs (x.gen % 2) (dN x)):=by unfold Hid pL;rw [if_pos hx]
   have HB:Hid (pM ss cs f bs x=dQ ss cs f bs (x.gen % 2) (dN x)):=by unfold Hid pM;rw [if_pos hx]
   have hpl:=tO x;obtain ⟨x0,x1,x2,x3,x4,x5,x6,x7⟩:=S1.cells8;have HB1:=aa B1;have HR1:=aa R1;clear B1 R1;have hS:∀w',Box w' w.heap.size 101 #[.slice a0 n0 c0,.slice a1 n1 c1,.bool f,.slice a3 n3 c3]->Box w' (w.heap.size+1) 150 #[.int .i64 x.id,.int .i64 x.gen,.int .i64 x.role,.int .i64 x.n,.int .i64 x.s,.int .i64 x.tail,.int .i64 x.lost,.int .i64 x.vG]->w'.cell? ⟨w.heap.size,0,none⟩=some (.slice a0 n0 c0)/\w'.cell? ⟨w.heap.size,1,none⟩=some (.slice a1 n1 c1)/\w'.cell? ⟨w.heap.size,2,none⟩=some (.bool f)/\w'.cell? ⟨w.heap.size,3,none⟩=some (.slice a3 n3 c3)/\w'.cell? ⟨w.heap.size+1,0,none⟩=some (.int .i64 x.id)/\w'.cell? ⟨w.heap.size+1,1,none⟩=some (.int .i64 x.gen)/\w'.cell? ⟨w.heap.size+1,2,none⟩=some (.int .i64 x.role)/\w'.cell? ⟨w.heap.size+1,3,none⟩=some (.int .i64 x.n)/\w'.cell? ⟨w.heap.size+1,4,none⟩=some (.int .i64 x.s)/\w'.cell? ⟨w.heap.size+1,5,none⟩=some (.int .i64 x.tail)/\w'.cell? ⟨w.heap.size+1,6,none⟩=some (.int .i64 x.lost)/\w'.cell? ⟨w.heap.size+1,7,none⟩=some (.int .i64 x.vG):=fun w' hm hs=>⟨hm.cell 0,hm.cell 1,hm.cell 2,hm.cell 3,hs.cell 0,hs.cell 1,hs.cell 2,hs.cell 3,hs.cell 4,hs.cell 5,hs.cell 6,hs.cell 7⟩;have hD:∀w',Box w' w.heap.size 101 #[.slice a0 n0 c0,.slice a1 n1 c1,.bool f,.slice a3 n3 c3]->Box w' (w.heap.size+1) 150 #[.int .i64 x.id,.int .i64 x.gen,.int .i64 x.role,.int .i64 x.n,.int .i64 x.s,.int .i64 x.tail,.int .i64 x.lost,.int .i64 x.vG]->w'.drew.cell? ⟨w.heap.size,0,none⟩=some (.slice a0 n0 c0)/\w'.drew.cell? ⟨w.heap.size,1,none⟩=some (.slice a1 n1 c1)/\w'.drew.cell? ⟨w.heap.size,2,none⟩=some (.bool f)/\w'.drew.cell? ⟨w.heap.size,3,none⟩=some (.slice a3 n3 c3)/\w'.drew.cell? ⟨w.heap.size+1,0,none⟩=some (.int .i64 x.id)/\w'.drew.cell? ⟨w.heap.size+1,1,none⟩=some (.int .i64 x.gen)/\w'.drew.cell? ⟨w.heap.size+1,2,none⟩=some (.int .i64 x.role)/\w'.drew.cell? ⟨w.heap.size+1,3,none⟩=some (.int .i64 x.n)/\w'.drew.cell? ⟨w.heap.size+1,4,none⟩=some (.int .i64 x.s)/\w'.drew.cell? ⟨w.heap.size+1,5,none⟩=some (.int .i64 x.tail)/\w'.drew.cell? ⟨w.heap.size+1,6,none⟩=some (.int .i64 x.lost)/\w'.drew.cell? ⟨w.heap.size+1,7,none⟩=some (.int .i64 x.vG):=hS;have HM1:=aa M1;have HS1:=aa S1;have nA:Hid (w.heap.size≠w1.heap.size):=by unfold Hid;omega
   have nA':Hid (w.heap.size+1≠w1.heap.size):=by unfold Hid;omega
   have ZW:Hid (w.heap.size+2<w1.heap.size):=by unfold Hid;omega
   have HG:=aa hg.1;clear M1 S1 hg;go_wp2_with fail
   go_region_held3 (fun w'=>w'.cell? ⟨w.heap.size,0,none⟩=some (.slice a0 n0 c0)/\w'.cell? ⟨w.heap.size,1,none⟩=some (.slice a1 n1 c1)/\w'.cell? ⟨w.heap.size,2,none⟩=some (.bool f)/\w'.cell? ⟨w.heap.size,3,none⟩=some (.slice a3 n3 c3)/\w'.cell? ⟨w.heap.size+1,0,none⟩=some (.int .i64 x.id)/\w'.cell? ⟨w.heap.size+1,1,none⟩=some (.int .i64 x.gen)/\w'.cell? ⟨w.heap.size+1,2,none⟩=some (.int .i64 x.role)/\w'.cell? ⟨w.heap.size+1,3,none⟩=some (.int .i64 x.n)/\w'.cell? ⟨w.heap.size+1,4,none⟩=some (.int .i64 x.s)/\w'.cell? ⟨w.heap.size+1,5,none⟩=some (.int .i64 x.tail)/\w'.cell? ⟨w.heap.size+1,6,none⟩=some (.int .i64 x.lost)/\w'.cell? ⟨w.heap.size+1,7,none⟩=some (.int .i64 x.vG))
    (first
     | (with_reducible exact hS w4 M4.out S4.out)
     | (with_reducible exact hS _ (M4.out.alloc _) (S4.out.alloc _))
     | (with_reducible exact hS _ ((((M4.out.other nA.out 0 _).other nA.out 1 _).other nA.out 2 _).other nA.out 3 _) ((((S4.out.other nA'.out 0 _).other nA'.out 1 _).other nA'.out 2 _).other nA'.out 3 _))
     | (with_reducible exact hS _ ((((M4.out.other nB.out 0 _).other nB.out 1 _).other nB.out 2 _).other nB.out 3 _) ((((S4.out.other nB'.out 0 _).other nB'.out 1 _).other nB'.out 2 _).other nB'.out 3 _))
     | (with_reducible exact hS w3 M3.out S3.out)
     | (with_reducible exact hS _ (M3.out.alloc _) (S3.out.alloc _))
     | (with_reducible exact hD _ HM1.out HS1.out)
     | (with_reducible exact hD _ (HM1.out.alloc _) (HS1.out.alloc _))
     | go_keep)
    (first
     | (go_at_call 276;refine (lI _ _ HG.out).mono ?_;rintro e w2 ⟨rfl,rfl⟩)
     | (go_at_call 277;refine (gR _ x).mono ?_;rintro e w3 ⟨pa,pl,pc,rfl,o3,b3⟩;have hpl3:=(af o3.rd).1;have b3c:Below w1.drew.heap.size w1.drew w3:=(by with_reducible exact b3);have b3':Below w1.heap.size w1 w3:=(Below.refl w1.heap.size w1).drew.trans b3c;have M3:=aa (HM1.out.below b3' zM);have S3:=aa (HS1.out.below b3' zS);have O3:=aa o3;have hb3:=aa b3';clear b3 b3c b3' o3)
     | (go_at_call 256;have xo3:=XO3.out;refine (dR _ E _ _ _ _ _ _ _ _ _ _ _ _ ss cs f bs (x.gen % 2) (dN x) (by with_reducible exact h0.below (Below.andThen HB1.out hb3.out)) (by with_reducible exact h1.below (Below.andThen HB1.out hb3.out)) (by with_reducible exact h3.below (Below.andThen HB1.out hb3.out)) (by with_reducible exact O3.out.rd) hw (by omega)).mono ?_;rintro e w4 ⟨u0,u1,u3,rfl,o4,b4⟩;obtain ⟨fa0,fl0,fc0,fa1,fl1,fc1,fa3,fl3,fc3,hv0,hv1,hv3⟩:=im o4;subst hv0 hv1 hv3;have M4:=aa (M3.out.below b4 M3.out.lt);have S4:=aa (S3.out.below b4 S3.out.lt);have xo4:=xo3.below b4 xo3.lt;obtain ⟨s0,s1,s2,s3⟩:=xo4.cells4;have u0:=xo4.frozen 0;have u1:=xo4.frozen 1;have u2:=xo4.frozen 2;have u3:=xo4.frozen 3;have XO4:=aa xo4;have O4:=aa o4;have hb4:=aa b4;clear b4 o4 xo4 xo3)
     | (go_at_call 256;refine (dR _ E _ _ _ _ _ _ _ _ _ _ _ _ ss cs f bs (x.gen % 2) (dN x) (by with_reducible exact h0.below (Below.andThen HB1.out hb3.out)) (by with_reducible exact h1.below (Below.andThen HB1.out hb3.out)) (by with_reducible exact h3.below (Below.andThen HB1.out hb3.out)) (by with_reducible exact O3.out.rd) hw (by omega)).mono ?_;rintro e w4 ⟨u0,u1,u3,rfl,o4,b4⟩;obtain ⟨fa0,fl0,fc0,fa1,fl1,fc1,fa3,fl3,fc3,hv0,hv1,hv3⟩:=im o4;subst hv0 hv1 hv3;have M4:=aa (M3.out.below b4 M3.out.lt);have S4:=aa (S3.out.below b4 S3.out.lt);have O4:=aa o4;have hb4:=aa b4;clear b4 o4)
     | (go_at_call 256;refine (dR _ E _ _ _ _ _ _ _ _ _ _ _ _ ss cs f bs (x.gen % 2) (dN x) (by with_reducible exact h0.below ((Below.andThen HB1.out hb3.out).alloc (Below.andThen HB1.out hb3.out).size _)) (by with_reducible exact h1.below ((Below.andThen HB1.out hb3.out).alloc (Below.andThen HB1.out hb3.out).size _)) (by with_reducible exact h3.below ((Below.andThen HB1.out hb3.out).alloc (Below.andThen HB1.out hb3.out).size _)) (by with_reducible exact (O3.out.rd.below (ae w3 _))) hw (by omega)).mono ?_;rintro e w4 ⟨u0,u1,u3,rfl,o4,b4⟩;obtain ⟨fa0,fl0,fc0,fa1,fl1,fc1,fa3,fl3,fc3,hv0,hv1,hv3⟩:=im o4;subst hv0 hv1 hv3;have M4:=aa ((M3.out.alloc (.cells #[.slice none 0 0,.slice none 0 0,.bool false,.slice none 0 0] 101)).below b4 (M3.out.alloc (.cells #[.slice none 0 0,.slice none 0 0,.bool false,.slice none 0 0] 101)).lt);have S4:=aa ((S3.out.alloc (.cells #[.slice none 0 0,.slice none 0 0,.bool false,.slice none 0 0] 101)).below b4 (S3.out.alloc (.cells #[.slice none 0 0,.slice none 0 0,.bool false,.slice none 0 0] 101)).lt);have xp4:=(Box.new w3 101 #[.slice none 0 0,.slice none 0 0,.bool false,.slice none 0 0]).below b4 (by simp);obtain ⟨s0,s1,s2,s3⟩:=xp4.cells4;have u0:=xp4.frozen 0;have u1:=xp4.frozen 1;have u2:=xp4.frozen 2;have u3:=xp4.frozen 3;have z3:=hb3.out.size;have zW:=ZW.out;have nB:Hid (w.heap.size≠w3.heap.size):=(by unfold Hid;omega);have nB':Hid (w.heap.size+1≠w3.heap.size):=(by unfold Hid;omega);have XP4:=aa xp4;have O4:=aa o4;have hb4:=aa b4;clear b4 o4 xp4 z3 zW)
     | (go_at_call 277;refine (gR _ x).mono ?_;rintro e w3 ⟨pa,pl,pc,rfl,o3,b3⟩;have hpl3:=(af o3.rd).1;have ba:Below w1.heap.size w1 (w1.alloc (.cells #[.slice none 0 0,.slice none 0 0,.bool false,.slice none 0 0] 101)):=ae w1 _;have b3c:Below (w1.alloc (.cells #[.slice none 0 0,.slice none 0 0,.bool false,.slice none 0 0] 101)).drew.heap.size (w1.alloc (.cells #[.slice none 0 0,.slice none 0 0,.bool false,.slice none 0 0] 101)).drew w3:=(by with_reducible exact b3);have b3a:Below (w1.alloc (.cells #[.slice none 0 0,.slice none 0 0,.bool false,.slice none 0 0] 101)).heap.size (w1.alloc (.cells #[.slice none 0 0,.slice none 0 0,.bool false,.slice none 0 0] 101)) w3:=(Below.refl _ (w1.alloc (.cells #[.slice none 0 0,.slice none 0 0,.bool false,.slice none 0 0] 101))).drew.trans b3c;have b3':Below w1.heap.size w1 w3:=Below.andThen ba b3a;have M3:=aa (HM1.out.below b3' zM);have S3:=aa (HS1.out.below b3' zS);have XO3:=aa ((Box.new w1 101 #[.slice none 0 0,.slice none 0 0,.bool false,.slice none 0 0]).below b3a (by simp));have O3:=aa o3;have hb3:=aa b3';clear b3 b3c b3a ba b3' o3))
   . have z4:=hb4.out.size
     have z3:=hb3.out.size;have zW:=ZW.out;have B4:=Below.andThen HB1.out (Below.andThen hb3.out hb4.out);have RF0:=(HR1.out.below (Below.andThen hb3.out hb4.out) zR).alloc (.cells #[.slice fa0 fl0 fc0,.slice fa1 fl1 fc1,.bool f,.slice fa3 fl3 fc3] 101);have YF0:=Box.new w4 101 #[.slice fa0 fl0 fc0,.slice fa1 fl1 fc1,.bool f,.slice fa3 fl3 fc3];have OF0:=(O4.out.below (ae w4 (.cells #[.slice fa0 fl0 fc0,.slice fa1 fl1 fc1,.bool f,.slice fa3 fl3 fc3] 101))).widen (lo':=w1.heap.size) (hi':=(w4.alloc (.cells #[.slice fa0 fl0 fc0,.slice fa1 fl1 fc1,.bool f,.slice fa3 fl3 fc3] 101)).heap.size) (by omega) (by simp);have BF0:=B4.alloc B4.size (.cells #[.slice fa0 fl0 fc0,.slice fa1 fl1 fc1,.bool f,.slice fa3 fl3 fc3] 101);have ZF0:w.heap.size+2<w1.heap.size:=zW;clear B4;have RF:=RF0;have HBF:=aa BF0;have HYF:=aa YF0;have HOF:=aa OF0;have zF:=ZF0;clear RF0 BF0 YF0 OF0 ZF0;generalize w4.alloc (.cells #[.slice fa0 fl0 fc0,.slice fa1 fl1 fc1,.bool f,.slice fa3 fl3 fc3] 101)=WF at RF HBF HYF HOF zF ⊢;generalize w4.heap.size=BO at HYF ⊢;obtain ⟨y0,y1,y2,y3⟩:=HYF.out.cells4;obtain ⟨r0,r1,r2,r3⟩:=RF.cells4;have fz:=RF.frozen;have hbt:=fk WF (w.heap.size+1+1) (.slice fa0 fl0 fc0) (.slice fa1 fl1 fc1) (.bool f) (.slice fa3 fl3 fc3);have zt:=hbt.size;have FO:=aa ((HOF.out.but hbt (.inr (by omega))).widen (lo':=w.heap.size) (hi':=(iL WF (w.heap.size+1+1) (.slice fa0 fl0 fc0) (.slice fa1 fl1 fc1) (.bool f) (.slice fa3 fl3 fc3)).heap.size) (by omega) hbt.size);rw [←HC.out,←HB.out] at FO;have FB:=aa (Below.andBut HBF.out hbt (by omega));unfold iL at FO FB;clear hbt RF HBF HYF HOF zt;go_wp2
     refine bodyPost_ret (v:=.agg #[.slice fa0 fl0 fc0,.slice fa1 fl1 fc1,.bool f,.slice fa3 fl3 fc3]) (by simp [results,Tryz.results263,go_sem,r0,r1,r2,r3]) rfl ?_
     exact ⟨_,_,_,rfl,FO.out,FB.out⟩
   . have xo4:=XP4.out
     have zal:(w3.alloc (.cells #[.slice none 0 0,.slice none 0 0,.bool false,.slice none 0 0] 101)).heap.size=w3.heap.size+1:=by simp
     have z4:=hb4.out.size;have z3:=hb3.out.size;have zW:=ZW.out;have hbs:=fk w4 w3.heap.size (.slice fa0 fl0 fc0) (.slice fa1 fl1 fc1) (.bool f) (.slice fa3 fl3 fc3);have zs:=hbs.size;have B4:=Below.andThen HB1.out (Below.andThen hb3.out (Below.andThen (ae w3 _) hb4.out));have RF0:=(HR1.out.below (Below.andThen hb3.out (Below.andThen (ae w3 _) hb4.out)) zR).kept (hbs.block _ (by omega) (by omega));have YF0:=(((xo4.set 0 (.slice fa0 fl0 fc0)).set 1 (.slice fa1 fl1 fc1)).set 2 (.bool f)).set 3 (.slice fa3 fl3 fc3);have OF0:=((O4.out.but hbs (.inr (by omega))).widen (lo':=w1.heap.size) (hi':=(iL w4 w3.heap.size (.slice fa0 fl0 fc0) (.slice fa1 fl1 fc1) (.bool f) (.slice fa3 fl3 fc3)).heap.size) (by omega) zs);have BF0:=Below.andBut B4 hbs (by omega);have ZF0:w.heap.size+2<w1.heap.size:=zW;unfold iL at RF0 OF0 BF0;clear hbs zs B4 xo4;have RF:=RF0;have HBF:=aa BF0;have HYF:=aa YF0;have HOF:=aa OF0;have zF:=ZF0;clear RF0 BF0 YF0 OF0 ZF0;generalize ((((w4.setCell ⟨w3.heap.size,0,none⟩ (.slice fa0 fl0 fc0)).setCell ⟨w3.heap.size,1,none⟩ (.slice fa1 fl1 fc1)).setCell ⟨w3.heap.size,2,none⟩ (.bool f)).setCell ⟨w3.heap.size,3,none⟩ (.slice fa3 fl3 fc3))=WF at RF HBF HYF HOF zF ⊢;generalize w3.heap.size=BO at HYF ⊢;obtain ⟨y0,y1,y2,y3⟩:=HYF.out.cells4;obtain ⟨r0,r1,r2,r3⟩:=RF.cells4;have fz:=RF.frozen;have hbt:=fk WF (w.heap.size+1+1) (.slice fa0 fl0 fc0) (.slice fa1 fl1 fc1) (.bool f) (.slice fa3 fl3 fc3);have zt:=hbt.size;have FO:=aa ((HOF.out.but hbt (.inr (by omega))).widen (lo':=w.heap.size) (hi':=(iL WF (w.heap.size+1+1) (.slice fa0 fl0 fc0) (.slice fa1 fl1 fc1) (.bool f) (.slice fa3 fl3 fc3)).heap.size) (by omega) hbt.size);rw [←HC.out,←HB.out] at FO;have FB:=aa (Below.andBut HBF.out hbt (by omega));unfold iL at FO FB;clear hbt RF HBF HYF HOF zt;go_wp2
     refine bodyPost_ret (v:=.agg #[.slice fa0 fl0 fc0,.slice fa1 fl1 fc1,.bool f,.slice fa3 fl3 fc3]) (by simp [results,Tryz.results263,go_sem,r0,r1,r2,r3]) rfl ?_
     exact ⟨_,_,_,rfl,FO.out,FB.out⟩
   . have xo4:=XO4.out
     have zal:=XO3.out.lt;have z4:=hb4.out.size;have z3:=hb3.out.size;have zW:=ZW.out;have hbs:=fk w4 w1.heap.size (.slice fa0 fl0 fc0) (.slice fa1 fl1 fc1) (.bool f) (.slice fa3 fl3 fc3);have zs:=hbs.size;have B4:=Below.andThen HB1.out (Below.andThen hb3.out hb4.out);have RF0:=(HR1.out.below (Below.andThen hb3.out hb4.out) zR).kept (hbs.block _ (by omega) (by omega));have YF0:=(((xo4.set 0 (.slice fa0 fl0 fc0)).set 1 (.slice fa1 fl1 fc1)).set 2 (.bool f)).set 3 (.slice fa3 fl3 fc3);have OF0:=((O4.out.but hbs (.inr (by omega))).widen (lo':=w1.heap.size) (hi':=(iL w4 w1.heap.size (.slice fa0 fl0 fc0) (.slice fa1 fl1 fc1) (.bool f) (.slice fa3 fl3 fc3)).heap.size) (by omega) zs);have BF0:=Below.andBut B4 hbs (by omega);have ZF0:w.heap.size+2<w1.heap.size:=zW;unfold iL at RF0 OF0 BF0;clear hbs zs B4 xo4;have RF:=RF0;have HBF:=aa BF0;have HYF:=aa YF0;have HOF:=aa OF0;have zF:=ZF0;clear RF0 BF0 YF0 OF0 ZF0;generalize ((((w4.setCell ⟨w1.heap.size,0,none⟩ (.slice fa0 fl0 fc0)).setCell ⟨w1.heap.size,1,none⟩ (.slice fa1 fl1 fc1)).setCell ⟨w1.heap.size,2,none⟩ (.bool f)).setCell ⟨w1.heap.size,3,none⟩ (.slice fa3 fl3 fc3))=WF at RF HBF HYF HOF zF ⊢;generalize w1.heap.size=BO at HYF ⊢;obtain ⟨y0,y1,y2,y3⟩:=HYF.out.cells4;obtain ⟨r0,r1,r2,r3⟩:=RF.cells4;have fz:=RF.frozen;have hbt:=fk WF (w.heap.size+1+1) (.slice fa0 fl0 fc0) (.slice fa1 fl1 fc1) (.bool f) (.slice fa3 fl3 fc3);have zt:=hbt.size;have FO:=aa ((HOF.out.but hbt (.inr (by omega))).widen (lo':=w.heap.size) (hi':=(iL WF (w.heap.size+1+1) (.slice fa0 fl0 fc0) (.slice fa1 fl1 fc1) (.bool f) (.slice fa3 fl3 fc3)).heap.size) (by omega) hbt.size);rw [←HC.out,←HB.out] at FO;have FB:=aa (Below.andBut HBF.out hbt (by omega));unfold iL at FO FB;clear hbt RF HBF HYF HOF zt;go_wp2
     refine bodyPost_ret (v:=.agg #[.slice fa0 fl0 fc0,.slice fa1 fl1 fc1,.bool f,.slice fa3 fl3 fc3]) (by simp [results,Tryz.results263,go_sem,r0,r1,r2,r3]) rfl ?_
     exact ⟨_,_,_,rfl,FO.out,FB.out⟩
   have xo4:=XO4.out;have zal:=XO3.out.lt;have z4:=hb4.out.size;have z3:=hb3.out.size;have zW:=ZW.out;have hbs:=fk w4 w1.heap.size (.slice fa0 fl0 fc0) (.slice fa1 fl1 fc1) (.bool f) (.slice fa3 fl3 fc3);have zs:=hbs.size;have B4:=Below.andThen HB1.out (Below.andThen hb3.out hb4.out);have RF0:=(HR1.out.below (Below.andThen hb3.out hb4.out) zR).kept (hbs.block _ (by omega) (by omega));have YF0:=(((xo4.set 0 (.slice fa0 fl0 fc0)).set 1 (.slice fa1 fl1 fc1)).set 2 (.bool f)).set 3 (.slice fa3 fl3 fc3);have OF0:=((O4.out.but hbs (.inr (by omega))).widen (lo':=w1.heap.size) (hi':=(iL w4 w1.heap.size (.slice fa0 fl0 fc0) (.slice fa1 fl1 fc1) (.bool f) (.slice fa3 fl3 fc3)).heap.size) (by omega) zs);have BF0:=Below.andBut B4 hbs (by omega);have ZF0:w.heap.size+2<w1.heap.size:=zW;unfold iL at RF0 OF0 BF0;clear hbs zs B4 xo4;have RF:=RF0;have HBF:=aa BF0;have HYF:=aa YF0;have HOF:=aa OF0;have zF:=ZF0;clear RF0 BF0 YF0 OF0 ZF0;generalize ((((w4.setCell ⟨w1.heap.size,0,none⟩ (.slice fa0 fl0 fc0)).setCell ⟨w1.heap.size,1,none⟩ (.slice fa1 fl1 fc1)).setCell ⟨w1.heap.size,2,none⟩ (.bool f)).setCell ⟨w1.heap.size,3,none⟩ (.slice fa3 fl3 fc3))=WF at RF HBF HYF HOF zF ⊢;generalize w1.heap.size=BO at HYF ⊢;obtain ⟨y0,y1,y2,y3⟩:=HYF.out.cells4;obtain ⟨r0,r1,r2,r3⟩:=RF.cells4;have fz:=RF.frozen;have hbt:=fk WF (w.heap.size+1+1) (.slice fa0 fl0 fc0) (.slice fa1 fl1 fc1) (.bool f) (.slice fa3 fl3 fc3);have zt:=hbt.size;have FO:=aa ((HOF.out.but hbt (.inr (by omega))).widen (lo':=w.heap.size) (hi':=(iL WF (w.heap.size+1+1) (.slice fa0 fl0 fc0) (.slice fa1 fl1 fc1) (.bool f) (.slice fa3 fl3 fc3)).heap.size) (by omega) hbt.size);rw [←HC.out,←HB.out] at FO;have FB:=aa (Below.andBut HBF.out hbt (by omega));unfold iL at FO FB;clear hbt RF HBF HYF HOF zt;go_wp2
   refine bodyPost_ret (v:=.agg #[.slice fa0 fl0 fc0,.slice fa1 fl1 fc1,.bool f,.slice fa3 fl3 fc3]) (by simp [results,Tryz.results263,go_sem,r0,r1,r2,r3]) rfl ?_
   exact ⟨_,_,_,rfl,FO.out,FB.out⟩
 have hx':eA x=false:=by simpa using hx
 have HC:Hid (pL ss cs f bs x=cs):=by unfold Hid pL;rw [if_neg hx]
 have HB:Hid (pM ss cs f bs x=bs):=by unfold Hid pM;rw [if_neg hx]
 go_wp2_with fail
 refine (ev _ E _ _ _ _ _ _ _ _ _ ss cs f bs (h0.below B1) (h1.below B1) (h3.below B1) hw).mono ?_
 rintro e w2 ⟨v0,v1,v3,m1,m2,rfl,k3,k0,k1,zm1,zm2,zm3,b2⟩;have R2:=R1.below b2 zR;have B2:=Below.andThen B1 b2;obtain ⟨fa0,fc0,rfl⟩:=az k0.rd;obtain ⟨fa1,fc1,rfl⟩:=az k1.rd;obtain ⟨fa3,fc3,rfl⟩:=az k3.rd;obtain ⟨r0,r1,r2,r3⟩:=R2.cells4;have fz:=R2.frozen;have zw:=b2.size;have hbt:=fk w2 (w.heap.size+1+1) (.slice fa0 ss.length fc0) (.slice fa1 cs.length fc1) (.bool f) (.slice fa3 bs.length fc3);have zt:=hbt.size;have FO:=aa (ch (lo:=w.heap.size) (hi:=(iL w2 (w.heap.size+1+1) (.slice fa0 ss.length fc0) (.slice fa1 cs.length fc1) (.bool f) (.slice fa3 bs.length fc3)).heap.size) (f:=f) (k0.but hbt (by omega)) (k1.but hbt (by omega)) (k3.but hbt (by omega)) (by omega) (by omega) (by omega) (by omega) (by omega) (by omega));have FB:=aa (Below.andBut B2 hbt (by omega));unfold iL at FO FB;clear hbt R1 R2 B1 B2 b2 q0 q1 q2 q3 M1 S1 k0 k1 k3 zt;go_wp2
 refine bodyPost_ret (v:=.agg #[.slice fa0 ss.length fc0,.slice fa1 cs.length fc1,.bool f,.slice fa3 bs.length fc3]) (by simp [results,Tryz.results263,go_sem,r0,r1,r2,r3]) rfl ?_
 exact ⟨_,_,_,rfl,by rw [HC.out,HB.out];exact FO.out,FB.out⟩
def inL (zs:List Int) (n:Int):Bool:=zs.any fun x=>decide (x=n)
theorem tP {zs:List Int} {n x:Int} {j:Nat} (h:j<zs.length) (hx:zs.getD j 0=x):(x=n->inL zs n=true)/\(x≠n->inL (zs.take j) n=false->inL (zs.take (j+1)) n=false):=by
 have e:zs[j]=x:=by rw [←hx];simp [List.getElem?_eq_getElem h]
 refine ⟨fun h1=>?_,fun h1 h2=>?_⟩
 . unfold inL
   rw [List.any_eq_true];exact ⟨x,by rw [←e];exact List.getElem_mem h,by simp [h1]⟩
 unfold inL at *;rw [List.take_succ_eq_append_getElem h,List.any_append,h2,e];simp [h1]
theorem kt (w:World) (a:Option Addr) (len cap:Nat) (zs:List Int) (n:Int) (hz:zs.length=len) (hr:aK .i64 w a zs) (hlen:len<=2097152):
 Calls Tryz.prog 197 #[.slice a len cap,.int .i64 n] w fun e w'=>e=.returned (.bool (inL zs n))/\aN w w':=by
 go_enter Tryz.func197,Tryz.ntmps197
 go_wp2
 go_loop [5] (fun i=>∃j:Nat,j<=len/\i=.int .i64 j/\inL (zs.take j) n=false) (fun i=>len-(intOf i).toNat)
 case atStart=>exact ⟨0,Nat.zero_le _,rfl,rfl⟩
 obtain ⟨j,hj,rfl,ht⟩:=hrel;by_cases hlt:j<len
 . rcases hr.cases with h0|⟨b,off,rfl,hbl,hc⟩
   . omega
   have hc1:=hc j (by omega);have hd:=tP (zs:=zs) (n:=n) (j:=j) (by omega) rfl;generalize zs.getD j 0=x at hc1 hd;have HT:=aa ht;clear hc ht;by_cases hx:x=n
   . have HD:=aa (hd.1 hx)
     clear hd;go_wp2
     go_ret
     exact ⟨ag HD.out.symm,aN.refl _⟩
   have HD:=aa (hd.2 hx HT.out);clear hd;go_wp2
   go_round
   case rel=>exact ⟨j+1,by omega,by go_num,HD.out⟩
   case measure=>simp [intOf];omega
 go_wp2
 go_ret
 have e:j=len:=by omega
 subst e;rw [List.take_of_length_le (by omega)] at ht;exact ⟨ag ht.symm,aN.refl _⟩
def ku (ss:List (List Int)) (cs:List (Int×List Int)) (bs:List Int) (n:Int):Bool:=bp ss cs bs&&(inB n 0 ((ss.length:Int)-1)&&!inL bs n)
def kw (bs:List Int) (n:Int):List Int:=bs.take (bs.filter fun x=>decide (x<=n)).length++n :: bs.drop (bs.filter fun x=>decide (x<=n)).length
def iQ (ss:List (List Int)) (cs:List (Int×List Int)) (bs:List Int) (n:Int):List Int:=if ku ss cs bs n=true then kw bs n else bs
theorem qQ {bs:List Int} {n:Int} {k:Nat} (h1:∀x∈bs.take k,x<=n) (h2:∀x∈bs.drop k,n<x) (hk:k<=bs.length):kw bs n=bs.take k++n :: bs.drop k:=by
 have e:(bs.filter fun x=>decide (x<=n)).length=k:=by
  have h3:(bs.take k++bs.drop k).filter (fun x=>decide (x<=n))=bs.take k:=by
   rw [List.filter_append,List.filter_eq_self.2 (fun x hx=>by simp [h1 x hx]),List.filter_eq_nil_iff.2 (fun x hx=>by have:=h2 x hx;simp;omega),List.append_nil]
  rw [List.take_append_drop] at h3;rw [h3,List.length_take];omega
 unfold kw;rw [e]
theorem tQ {ss:List (List Int)} {cs:List (Int×List Int)} {bs:List Int} (h:bp ss cs bs=true):∀i,i+1<bs.length->bs.getD i 0<bs.getD (i+1) 0:=by
 unfold bp at h;simp only [Bool.and_eq_true] at h
 have h1:=h.2.2.1;unfold ik at h1;rw [List.all_eq_true] at h1;intro i hi;have h2:=h1 (i+1) (List.mem_range.2 hi);unfold dA at h2;simp at h2
 have h3:=h2.2;rw [List.getD_eq_getElem?_getD,List.getD_eq_getElem?_getD];exact h3
theorem vk {bs:List Int} {n:Int} {k:Nat} (ha:∀i,i+1<bs.length->bs.getD i 0<bs.getD (i+1) 0) (hk:k<=bs.length) (h:k=0∨bs.getD (k-1) 0<=n):∀x∈bs.take k,x<=n:=by
 intro x hx;obtain ⟨i,hi⟩:=List.mem_iff_getElem?.1 hx;rw [List.getElem?_take] at hi;by_cases hik:i<k
 . rw [if_pos hik] at hi
   have hd:bs.getD i 0=x:=by rw [List.getD_eq_getElem?_getD,hi];rfl
   rcases h with h|h
   . omega
   have mono:∀d,i+d<k->bs.getD i 0<=bs.getD (i+d) 0:=by
    intro d;induction d with
    | zero=>intro _;exact Int.le_refl _
    | succ d ih=>
     intro hd';have h1:=ih (by omega);have h2:=ha (i+d) (by omega);have e:i+d+1=i+(d+1):=by omega
     rw [e] at h2;omega
   have h3:=mono (k-1-i) (by omega);have e:i+(k-1-i)=k-1:=by omega
   rw [e,hd] at h3;omega
 rw [if_neg hik] at hi;simp at hi
theorem gX (w:World) (E:TypeId) (a0 a1 a3:Option Addr) (n0 c0 n1 c1 n3 c3:Nat) (ss:List (List Int)) (cs:List (Int×List Int)) (f:Bool) (bs:List Int) (n:Int) (h0:aT.Rd w [.slice a0 n0 c0] ss) (h1:(aU E).Rd w [.slice a1 n1 c1] cs) (h3:aA.Rd w [.slice a3 n3 c3] bs) (hw:aQ (ss,cs,f,bs)<=2097152):
 Calls Tryz.prog 133 #[.agg #[.slice a0 n0 c0,.slice a1 n1 c1,.bool f,.slice a3 n3 c3],.int .i64 n] w fun e w'=>∃v0 v1 v3,e=.returned (.agg #[v0,v1,.bool f,v3])/\(bR 171).Own w' w.heap.size w'.heap.size [v0,v1,.bool f,v3] (ss,cs,f,iQ ss cs bs n)/\Below w.heap.size w w':=by
 obtain ⟨hl0,_,hm0⟩:=af h0;obtain ⟨hl1,_,hm1⟩:=af h1;obtain ⟨hl3,_,hm3⟩:=af h3;have hw3:n3<=2097152:=by unfold aQ at hw;simp only at hw;omega
 have hA:Below w.heap.size w ((w.alloc (.cells #[.slice a0 n0 c0,.slice a1 n1 c1,.bool f,.slice a3 n3 c3] 101)).alloc (.cells #[.slice none 0 0,.slice none 0 0,.bool false,.slice none 0 0] 101)):=((Below.refl _ _).alloc (Nat.le_refl _) _).alloc (by simp) _;have xm:Box ((w.alloc (.cells #[.slice a0 n0 c0,.slice a1 n1 c1,.bool f,.slice a3 n3 c3] 101)).alloc (.cells #[.slice none 0 0,.slice none 0 0,.bool false,.slice none 0 0] 101)) w.heap.size 101 #[.slice a0 n0 c0,.slice a1 n1 c1,.bool f,.slice a3 n3 c3]:=(Box.new w _ _).alloc _;have xr:Box ((w.alloc (.cells #[.slice a0 n0 c0,.slice a1 n1 c1,.bool f,.slice a3 n3 c3] 101)).alloc (.cells #[.slice none 0 0,.slice none 0 0,.bool false,.slice none 0 0] 101)) (w.heap.size+1) 101 #[.slice none 0 0,.slice none 0 0,.bool false,.slice none 0 0]:=by
  have:=Box.new (w.alloc (.cells #[.slice a0 n0 c0,.slice a1 n1 c1,.bool f,.slice a3 n3 c3] 101)) 101 #[.slice none 0 0,.slice none 0 0,.bool false,.slice none 0 0];rw [show (w.alloc (.cells #[.slice a0 n0 c0,.slice a1 n1 c1,.bool f,.slice a3 n3 c3] 101)).heap.size=w.heap.size+1 by simp] at this;exact this
 go_enter Tryz.func133,Tryz.ntmps133
 go_wp2_with fail
 generalize hW:(w.alloc (.cells #[.slice a0 n0 c0,.slice a1 n1 c1,.bool f,.slice a3 n3 c3] 101)).alloc (.cells #[.slice none 0 0,.slice none 0 0,.bool false,.slice none 0 0] 101)=W at hA xm xr ⊢;clear hW;have zr:=xr.lt;have B0:=aa hA;clear hA;have XM0:=aa xm;clear xm;have XR0:=aa xr;clear xr;refine (en _ E _ _ _ _ _ _ _ _ _ ss cs f bs (h0.below B0.out) (h1.below B0.out) (h3.below B0.out) hw).mono ?_
 intro e w1 hc;obtain ⟨b0,b1,b3,e0,e1,e3,m1,m2,rfl,o3,o0,o1,r1,r2,r3,hb1⟩:=cQ hl0 hl1 hl3 hc;clear hc;have B1:=aa (Below.andThen B0.out hb1);have XM1:=aa (XM0.out.below hb1 (by omega));have XR1:=aa (XR0.out.below hb1 (by omega));have z1:=hb1.size;clear B0 XM0 XR0 hb1;have S1:=aa o0;clear o0;have C1:=aa o1;clear o1;have D1:=aa o3;clear o3;have ba:Below w1.heap.size w1 (w1.alloc (.cells #[.slice b0 n0 e0,.slice b1 n1 e1,.bool f,.slice b3 n3 e3] 101)):=(Below.refl _ _).alloc (Nat.le_refl _) _;have yo:=Box.new w1 101 #[.slice b0 n0 e0,.slice b1 n1 e1,.bool f,.slice b3 n3 e3];have zo:=yo.lt;have B2:=aa (Below.andThen B1.out ba);have XM2:=aa (XM1.out.below ba (by omega));have XR2:=aa (XR1.out.below ba (by omega));have S2:=aa (S1.out.below ba);have C2:=aa (C1.out.below ba);have D2:=aa (D1.out.below ba);have z2:=ba.size;clear B1 XM1 XR1 S1 C1 D1 ba;have XO2:=aa yo;clear yo;have sW:w.heap.size+1<W.heap.size:=zr;obtain ⟨q0,q1,q2,q3⟩:=XM2.out.cells4;go_wp2_with fail
 generalize w1.alloc (.cells #[.slice b0 n0 e0,.slice b1 n1 e1,.bool f,.slice b3 n3 e3] 101)=w2 at B2 XM2 XR2 S2 C2 D2 XO2 z2 zo q0 q1 q2 q3 ⊢;refine (aW _ E _ _ _ _ _ _ _ _ _ ss cs f bs (h0.below B2.out) (h1.below B2.out) (h3.below B2.out) hw).mono ?_
 rintro e w3 ⟨rfl,hb3⟩;clear q0 q1 q2 q3;have B3:=aa (Below.andThen B2.out hb3);have XM3:=aa (XM2.out.below hb3 (by omega));have XR3:=aa (XR2.out.below hb3 (by omega));have S3:=aa (S2.out.below hb3);have C3:=aa (C2.out.below hb3);have D3:=aa (D2.out.below hb3);have XO3:=aa (XO2.out.below hb3 (by omega));have z3:=hb3.size;clear B2 XM2 XR2 S2 C2 D2 XO2 hb3;cases hM:bp ss cs bs
 . have HK:Hid (iQ ss cs bs n=bs):=by
    have hk:ku ss cs bs n=false:=by unfold ku;simp [hM]
    unfold Hid iQ;rw [hk];rfl
   obtain ⟨q0,q1,q2,q3⟩:=XM3.out.cells4;obtain ⟨x0,x1,x2,x3⟩:=XO3.out.cells4;obtain ⟨p0,p1,p2,p3⟩:=XR3.out.cells4;have fz:=XR3.out.frozen;have FIN:=aa (dO (f:=f) B3.out D3.out S3.out C3.out r2 r1 r3 (by omega) sW (by omega));clear B3 XM3 XR3 S3 C3 D3 XO3;go_wp2
   refine bodyPost_ret (v:=.agg #[.slice b0 n0 e0,.slice b1 n1 e1,.bool f,.slice b3 n3 e3]) (by simp [results,Tryz.results133,go_sem,p0,p1,p2,p3]) rfl ?_
   exact ⟨_,_,_,rfl,by rw [HK.out];exact FIN.out.1,FIN.out.2⟩
 obtain ⟨q0,q1,q2,q3⟩:=XM3.out.cells4;have gw:IntKind.i64.wrap ((n0:Int)-1)=(n0:Int)-1:=IntWalk.i64_in _ (by omega);go_wp2_with fail
 refine (aE _ _ _ _).mono ?_
 rintro e w4 ⟨rfl,hw4⟩;have hs4:aN w3 w4:=by rw [hw4];exact aN.refl _
 clear hw4 gw;clear q0 q1 q2 q3;have B4:=aa (Below.andSame B3.out hs4);have XM4:=aa (XM3.out.same hs4);have XR4:=aa (XR3.out.same hs4);have S4:=aa (S3.out.same hs4);have C4:=aa (C3.out.same hs4);have D4:=aa (D3.out.same hs4);have XO4:=aa (XO3.out.same hs4);have z4:=Nat.le_of_eq hs4.size.symm;clear B3 XM3 XR3 S3 C3 D3 XO3 hs4;cases hI:inB n 0 ((n0:Int)-1)
 . have hI2:inB n 0 ((ss.length:Int)-1)=false:=by rw [hl0];exact hI
   have HK:Hid (iQ ss cs bs n=bs):=by
    have hk:ku ss cs bs n=false:=by unfold ku;simp [hI2]
    unfold Hid iQ;rw [hk];rfl
   obtain ⟨q0,q1,q2,q3⟩:=XM4.out.cells4;obtain ⟨x0,x1,x2,x3⟩:=XO4.out.cells4;obtain ⟨p0,p1,p2,p3⟩:=XR4.out.cells4;have fz:=XR4.out.frozen;have FIN:=aa (dO (f:=f) B4.out D4.out S4.out C4.out r2 r1 r3 (by omega) sW (by omega));clear B4 XM4 XR4 S4 C4 D4 XO4;go_wp2
   refine bodyPost_ret (v:=.agg #[.slice b0 n0 e0,.slice b1 n1 e1,.bool f,.slice b3 n3 e3]) (by simp [results,Tryz.results133,go_sem,p0,p1,p2,p3]) rfl ?_
   exact ⟨_,_,_,rfl,by rw [HK.out];exact FIN.out.1,FIN.out.2⟩
 obtain ⟨q0,q1,q2,q3⟩:=XM4.out.cells4;go_wp2_with fail
 refine (kt _ _ _ _ bs _ hl3 (aP (h3.below B4.out)).1 hw3).mono ?_
 rintro e w5 ⟨rfl,hs5⟩;clear q0 q1 q2 q3;have B5:=aa (Below.andSame B4.out hs5);have XM5:=aa (XM4.out.same hs5);have XR5:=aa (XR4.out.same hs5);have S5:=aa (S4.out.same hs5);have C5:=aa (C4.out.same hs5);have D5:=aa (D4.out.same hs5);have XO5:=aa (XO4.out.same hs5);have z5:=Nat.le_of_eq hs5.size.symm;clear B4 XM4 XR4 S4 C4 D4 XO4 hs5;cases hH:inL bs n;rotate_left
 . skip
   have HK:Hid (iQ ss cs bs n=bs):=by
    have hk:ku ss cs bs n=false:=by unfold ku;simp [hH]
    unfold Hid iQ;rw [hk];rfl
   obtain ⟨q0,q1,q2,q3⟩:=XM5.out.cells4;obtain ⟨x0,x1,x2,x3⟩:=XO5.out.cells4;obtain ⟨p0,p1,p2,p3⟩:=XR5.out.cells4;have fz:=XR5.out.frozen;have FIN:=aa (dO (f:=f) B5.out D5.out S5.out C5.out r2 r1 r3 (by omega) sW (by omega));clear B5 XM5 XR5 S5 C5 D5 XO5;go_wp2
   refine bodyPost_ret (v:=.agg #[.slice b0 n0 e0,.slice b1 n1 e1,.bool f,.slice b3 n3 e3]) (by simp [results,Tryz.results133,go_sem,p0,p1,p2,p3]) rfl ?_
   exact ⟨_,_,_,rfl,by rw [HK.out];exact FIN.out.1,FIN.out.2⟩
 have HK:Hid (iQ ss cs bs n=kw bs n):=by
  have hk:ku ss cs bs n=true:=by unfold ku;rw [hM,hl0,hI,hH];rfl
  unfold Hid iQ;rw [hk];rfl
 clear hH;obtain ⟨i3,hi3,hy0,hy1,hy2⟩:=info_parts Tryz.info3;obtain ⟨fpD,mD,rD⟩:=D5.out.mine;have MA:=aa (mD.alloc (.cells #[.int .i64 n] 3));have RD:=aa rD;clear mD rD;have LI:Hid (ey.Mine (w5.alloc (.cells #[.int .i64 n] 3)) [.int .i64 n] n []):=⟨⟨rfl,rfl⟩,by simp⟩;have NN:=aa (bk w5 #[.int .i64 n] 3);have ZA:Hid ((w5.alloc (.cells #[.int .i64 n] 3)).heap.size=w5.heap.size+1):=by unfold Hid;simp
 have BA:Hid (Below w5.heap.size w5 (w5.alloc (.cells #[.int .i64 n] 3))):=(Below.refl _ _).alloc (Nat.le_refl _) _;have L1:Hid (bs.length+1<=maxLen):=by unfold Hid maxLen;omega
 have L2:Hid ((bs.length+1)*8<=140737488355328):=by unfold Hid;omega
 obtain ⟨x0,x1,x2,x3⟩:=XO5.out.cells4;obtain ⟨q0,q1,q2,q3⟩:=XM5.out.cells4;go_wp2_with (at_builtin;refine bT ey rfl (.tmp 29) (.tmp 31) 31 rfl 3 i3 (.int .i64 0) 8 Tryz.underlying31 hi3 hy0 hy1 hy2 rfl Nat.zero_lt_one (.slice b3 n3 e3) bs fpD rfl ?_ ⟨w5.heap.size,0,none⟩ 1 [.int .i64 n] n [] rfl ?_ ?_ ?_ ?_ ?_ ?_ ?_;exact MA.out;exact LI.out;simp;exact NN.out;(intro u hu;simp at hu;rw [hu];rfl);exact L1.out;exact L2.out;intro v2 w6 fpA m1' m2' m3';obtain ⟨a6,c6,hv6⟩:=az m1'.rd;rw [List.length_append,List.length_cons,List.length_nil,hl3] at hv6;subst hv6;have y6:Box w6 w1.heap.size 101 _:=(XO5.out.alloc _).turned m3' (fun hm=>by have:=RD.out _ hm;omega);obtain ⟨t0,t1,t2,t3⟩:=y6.cells4;have fz:=y6.frozen 3;have Y6:=aa y6;have M1:=aa m1';have M2:=aa m2';have M3:=aa m3';clear y6 m1' m2' m3')
 have ha:But W.heap.size m1 w5 w6:=(But.of_below BA.out).trans (M3.out.but (fun b hb=>RD.out b hb));have zA:=ZA.out;have zT:=M3.out.size;obtain ⟨g,hga,rfl,hfg⟩:∃g,(g∈fpA)/\a6=some ⟨g,0,none⟩/\fpA=[g]:=by
  rcases lK M1.out.1 with ⟨hv,_,_⟩|⟨g,cap,hv,hf,_⟩
  . simp at hv
  simp only [Value.slice.injEq] at hv
  exact ⟨g,by rw [hf];simp,hv.1,hf⟩
 have hgr:W.heap.size<=g/\g<w6.heap.size/\(g<m1∨w1.heap.size<g):=by
  have h1:=M1.out.lt g hga;rcases M2.out g hga with h|h|h
  . have:=RD.out g h
    omega
  . simp at h
  have:=h.1;omega
 have gO:w1.heap.size≠g:=by omega
 have mZ:=M1.out.setCell (g:=w1.heap.size) (j:=3) (fun hm=>by rw [hfg] at hm;simp at hm;omega) (.slice (some ⟨g,0,none⟩) (n3+1) c6);have yZ:=Y6.out.set 3 (.slice (some ⟨g,0,none⟩) (n3+1) c6);have hb7:But w1.heap.size (w1.heap.size+1) w6 (w6.setCell ⟨w1.heap.size,3,none⟩ (.slice (some ⟨g,0,none⟩) (n3+1) c6)):=But.setCell (Nat.le_refl _) (Nat.lt_succ_self _) _;clear XO5;clear D5;clear q0 q1 q2 q3 x0 x1 x2 x3;have B6:=aa (Below.andBut B5.out ha (by omega));have XM6:=aa (XM5.out.kept (ha.block _ (by omega) (by omega)));have XR6:=aa (XR5.out.kept (ha.block _ (by omega) (by omega)));have S6:=aa (S5.out.but ha (by omega));have C6:=aa (C5.out.but ha (by omega));have z6:=ha.size;clear B5 XM5 XR5 S5 C5 ha;have B7:=aa (Below.andBut B6.out hb7 (by omega));have XM7:=aa (XM6.out.kept (hb7.block _ (by omega) (by omega)));have XR7:=aa (XR6.out.kept (hb7.block _ (by omega) (by omega)));have S7:=aa (S6.out.but hb7 (by omega));have C7:=aa (C6.out.but hb7 (by omega));have z7:=hb7.size;clear B6 XM6 XR6 S6 C6 hb7;have YZ:=aa yZ;have MZ:=aa mZ;clear mZ yZ M1 M2 M3 Y6 MA LI NN BA L1 L2 RD t0 t1 t2 t3 fz ZA;generalize (w6.setCell ⟨w1.heap.size,3,none⟩ (.slice (some ⟨g,0,none⟩) (n3+1) c6))=w7 at B7 XM7 XR7 S7 C7 z7 YZ MZ ⊢;have XO7:Hid (Box w7 w1.heap.size 101 #[.slice b0 n0 e0,.slice b1 n1 e1,.bool f,.slice (some ⟨g,0,none⟩) (n3+1) c6]):=YZ.out;clear YZ;have OW:Hid (Own .i64 3 w7 g (g+1) (.slice (some ⟨g,0,none⟩) (n3+1) c6) (bs++[n])):=by
  rcases lK MZ.out.1 with ⟨hv,_,_⟩|⟨g',cap,hv,hf,ho⟩
  . simp at hv
  simp only [Value.slice.injEq,Option.some.injEq,Addr.mk.injEq,and_true] at hv
  obtain ⟨rfl,_,rfl⟩:=hv;exact ho
 have hcap:n3+1<=c6:=(af MZ.out.rd).2.1;have hcm:c6<=9223372036854775807:=(af MZ.out.rd).2.2;clear MZ;have hg7:g<w7.heap.size:=by omega
 have hasc:=tQ hM;have HASC:=aa hasc;clear hasc;go_loopw [6] (fun kv wr=>∃(k:Nat) (L:List Int),k<=n3/\kv=.int .i64 k/\Own .i64 3 wr g (g+1) (.slice (some ⟨g,0,none⟩) (n3+1) c6) L/\L.take k=bs.take k/\L.drop (k+1)=bs.drop k/\(∀x∈bs.drop k,n<x)/\But g (g+1) w7 wr) (fun kv _=>(intOf kv).toNat)
 case atStart=>exact ⟨n3,bs++[n],Nat.le_refl _,rfl,OW.out,by rw [←hl3];simp,by rw [←hl3];simp,by rw [←hl3];simp,But.refl _ _ _⟩
 obtain ⟨k,L,hk,rfl,ho,ht,hd,hgt,hb⟩:=hrel;have hLl:=ho.length;have hs:=hb.size;have xo:=XO7.out.kept (hb.block _ (by omega) (by omega));obtain ⟨y0,y1,y2,y3⟩:=xo.cells4;cases k with
 | zero=>
  have HI:Hid (kw bs n=bs.take 0++n :: bs.drop 0):=qQ (by simp) hgt (Nat.zero_le _);obtain ⟨cw,fw,hst,hbt⟩:=ho.store (0) (by omega) n;have hset:L.set (0) n=kw bs n:=by rw [HI.out,List.set_eq_take_append_cons_drop,if_pos (by omega),ht,hd]
  rw [hset] at hst;generalize L.getD (0) 0=yy at cw;have xu:=xo.other gO (0) (.int .i64 n);obtain ⟨u0,u1,u2,u3⟩:=xu.cells4;have xp:=(XR7.out.kept (hb.block _ (by omega) (by omega))).other (g:=g) (by omega) (0) (.int .i64 n);obtain ⟨p0,p1,p2,p3⟩:=xp.cells4;have fz:=xp.frozen;have hb2:=hb.trans hbt;have KD:=aa (iP hst);have KS:=aa (S7.out.but hb2 (by omega));have KC:=aa (C7.out.but hb2 (by omega));have KB:=aa (Below.andBut B7.out hb2 (by omega));have zw:=hb2.size;clear hst hbt hset xu xp hb hb2 ho ht hd hgt xo HI HASC;go_wp2
  generalize (wr.setCell ⟨g,0,none⟩ (.int .i64 n))=wz at u0 u1 u2 u3 p0 p1 p2 p3 fz KD KS KC KB zw ⊢;have hbt:But (w.heap.size+1) (w.heap.size+1+1) wz ((((wz.setCell ⟨w.heap.size+1,0,none⟩ (.slice b0 n0 e0)).setCell ⟨w.heap.size+1,1,none⟩ (.slice b1 n1 e1)).setCell ⟨w.heap.size+1,2,none⟩ (.bool f)).setCell ⟨w.heap.size+1,3,none⟩ (.slice (some ⟨g,0,none⟩) (n3+1) c6)):=
   (((But.setCell (by omega) (by omega) _).trans (But.setCell (by omega) (by omega) _)).trans (But.setCell (by omega) (by omega) _)).trans (But.setCell (by omega) (by omega) _)
  have z99:=hbt.size;refine bodyPost_ret (v:=.agg #[.slice b0 n0 e0,.slice b1 n1 e1,.bool f,.slice (some ⟨g,0,none⟩) (n3+1) c6]) (by simp [results,Tryz.results133,go_sem,p0,p1,p2,p3]) rfl ?_
  have FIN:Hid ((bR 171).Own ((((wz.setCell ⟨w.heap.size+1,0,none⟩ (.slice b0 n0 e0)).setCell ⟨w.heap.size+1,1,none⟩ (.slice b1 n1 e1)).setCell ⟨w.heap.size+1,2,none⟩ (.bool f)).setCell ⟨w.heap.size+1,3,none⟩ (.slice (some ⟨g,0,none⟩) (n3+1) c6)) w.heap.size ((((wz.setCell ⟨w.heap.size+1,0,none⟩ (.slice b0 n0 e0)).setCell ⟨w.heap.size+1,1,none⟩ (.slice b1 n1 e1)).setCell ⟨w.heap.size+1,2,none⟩ (.bool f)).setCell ⟨w.heap.size+1,3,none⟩ (.slice (some ⟨g,0,none⟩) (n3+1) c6)).heap.size [.slice b0 n0 e0,.slice b1 n1 e1,.bool f,.slice (some ⟨g,0,none⟩) (n3+1) c6] (ss,cs,f,kw bs n)):=ch (KS.out.but hbt (by omega)) (KC.out.but hbt (by omega)) (KD.out.but hbt (by omega)) (by omega) (by omega) (by omega) (by omega) (by omega) (by omega);have FB:=aa (Below.andBut KB.out hbt (by omega));exact ⟨_,_,_,rfl,by rw [HK.out];exact FIN.out,FB.out⟩
 | succ k=>
  have hx:bs.getD k 0=L.getD k 0:=by
   have h1:(L.take (k+1))[k]?=(bs.take (k+1))[k]?:=by rw [ht]
   rw [List.getElem?_take,List.getElem?_take,if_pos (by omega),if_pos (by omega)] at h1;rw [List.getD_eq_getElem?_getD,List.getD_eq_getElem?_getD,h1]
  have hck:=(ho.store k (by omega) 0).1;rw [←hx] at hck;have hdk:bs.drop k=bs.getD k 0 :: bs.drop (k+1):=by rw [List.drop_eq_getElem_cons (by omega),List.getD_eq_getElem?_getD,List.getElem?_eq_getElem (by omega)];rfl
  have htk:L.take k=bs.take k:=by have:=congrArg (List.take k) ht;rw [List.take_take,List.take_take,Nat.min_eq_left (by omega)] at this;exact this
  have HLE:Hid (bs.getD k 0<=n->kw bs n=bs.take (k+1)++n :: bs.drop (k+1)):=fun hle=>qQ (vk HASC.out (by omega) (.inr hle)) hgt (by omega);generalize bs.getD k 0=x at hx hck hdk HLE;have k1:(0:Int)<((k:Int)+1):=by omega
  have k2:(0:Int)<=(k:Int):=by omega
  have k3:(k:Int)<(n3:Int)+1:=by omega
  have gw:IntKind.i64.wrap ((k:Int)+1-1)=(k:Int):=by rw [IntWalk.i64_in _ (by omega)];omega
  have gw2:IntKind.i64.wrap (k:Int)=(k:Int):=IntWalk.i64_in _ (by omega);have k4:((k:Int)+1)<(n3:Int)+1:=by omega
  have k5:(0:Int)<=(k:Int)+1:=by omega
  by_cases hxn:n<x
  . obtain ⟨cw,fw,hst,hbt⟩:=ho.store (k+1) (by omega) x
    have hti:(L.set (k+1) x).take k=bs.take k:=by
     rw [←htk];apply List.ext_getElem?
     intro m;rw [List.getElem?_take,List.getElem?_take];by_cases hm:m<k
     . rw [if_pos hm,if_pos hm,List.getElem?_set_ne (by omega)]
     rw [if_neg hm,if_neg hm]
    have hdi:(L.set (k+1) x).drop (k+1)=bs.drop k:=by
     rw [hdk,←hd,List.drop_eq_getElem_cons (by rw [List.length_set];omega),List.getElem_set_self];congr 1
     apply List.ext_getElem?
     intro m;rw [List.getElem?_drop,List.getElem?_drop,List.getElem?_set_ne (by omega)]
    have hgk:∀y∈bs.drop k,n<y:=by
     rw [hdk];intro y hy;rcases List.mem_cons.1 hy with rfl|hy
     . exact hxn
     exact hgt y hy
    have HCK:Hid ((wr.setCell ⟨g,k+1,none⟩ (.int .i64 x)).cell? ⟨g,k,none⟩=some (.int .i64 x)):=by
     have h1:=(hst.store k (by omega) 0).1;rw [List.getD_eq_getElem?_getD,List.getElem?_set_ne (by omega),←List.getD_eq_getElem?_getD,←hx] at h1;exact h1
    generalize L.getD (k+1) 0=yy at cw;have HST:=aa hst;have HBT:=aa hbt;have HTI:=aa hti;have HDI:=aa hdi;have HGK:=aa hgk;have HB:=aa hb;have XOR:=aa xo;have GO:=aa gO;clear hst hbt hti hdi hgk hb ho ht hd hgt hx hdk htk HLE xo;go_wp2_with fail
    go_region_held3 (fun w'=>w'.cell? ⟨w1.heap.size,3,none⟩=some (.slice (some ⟨g,0,none⟩) (n3+1) c6)/\w'.cell? ⟨g,k,none⟩=some (.int .i64 x))
     (first|(exact ⟨y3,hck⟩)|(exact ⟨(XOR.out.other GO.out (k+1) (.int .i64 x)).cell 3,HCK.out⟩)|go_keep)
     (fail)
    clear y0 y1 y2 y3 hck cw fw;go_wp2
    go_roundw
    case rel=>exact ⟨k,L.set (k+1) x,by omega,by go_num,(HST.out.same ((aN.refl _).drew)),HTI.out,HDI.out,HGK.out,(HB.out.trans HBT.out).trans (But.of_below (((aN.refl _).drew).below _))⟩
    case measure=>simp [intOf]
  have HI:=aa (HLE.out (by omega));obtain ⟨cw,fw,hst,hbt⟩:=ho.store (k+1) (by omega) n;have hset:L.set (k+1) n=kw bs n:=by rw [HI.out,List.set_eq_take_append_cons_drop,if_pos (by omega),ht,hd]
  rw [hset] at hst;generalize L.getD (k+1) 0=yy at cw;have xu:=xo.other gO (k+1) (.int .i64 n);obtain ⟨u0,u1,u2,u3⟩:=xu.cells4;have xp:=(XR7.out.kept (hb.block _ (by omega) (by omega))).other (g:=g) (by omega) (k+1) (.int .i64 n);obtain ⟨p0,p1,p2,p3⟩:=xp.cells4;have fz:=xp.frozen;have hb2:=hb.trans hbt;have KD:=aa (iP hst);have KS:=aa (S7.out.but hb2 (by omega));have KC:=aa (C7.out.but hb2 (by omega));have KB:=aa (Below.andBut B7.out hb2 (by omega));have zw:=hb2.size;clear hst hbt hset xu xp hb hb2 ho ht hd hgt xo HI HASC HLE hx hdk htk;go_wp2
  generalize (wr.setCell ⟨g,k+1,none⟩ (.int .i64 n))=wz at u0 u1 u2 u3 p0 p1 p2 p3 fz KD KS KC KB zw ⊢;have hbt:But (w.heap.size+1) (w.heap.size+1+1) wz ((((wz.setCell ⟨w.heap.size+1,0,none⟩ (.slice b0 n0 e0)).setCell ⟨w.heap.size+1,1,none⟩ (.slice b1 n1 e1)).setCell ⟨w.heap.size+1,2,none⟩ (.bool f)).setCell ⟨w.heap.size+1,3,none⟩ (.slice (some ⟨g,0,none⟩) (n3+1) c6)):=
   (((But.setCell (by omega) (by omega) _).trans (But.setCell (by omega) (by omega) _)).trans (But.setCell (by omega) (by omega) _)).trans (But.setCell (by omega) (by omega) _)
  have z99:=hbt.size;refine bodyPost_ret (v:=.agg #[.slice b0 n0 e0,.slice b1 n1 e1,.bool f,.slice (some ⟨g,0,none⟩) (n3+1) c6]) (by simp [results,Tryz.results133,go_sem,p0,p1,p2,p3]) rfl ?_
  have FIN:Hid ((bR 171).Own ((((wz.setCell ⟨w.heap.size+1,0,none⟩ (.slice b0 n0 e0)).setCell ⟨w.heap.size+1,1,none⟩ (.slice b1 n1 e1)).setCell ⟨w.heap.size+1,2,none⟩ (.bool f)).setCell ⟨w.heap.size+1,3,none⟩ (.slice (some ⟨g,0,none⟩) (n3+1) c6)) w.heap.size ((((wz.setCell ⟨w.heap.size+1,0,none⟩ (.slice b0 n0 e0)).setCell ⟨w.heap.size+1,1,none⟩ (.slice b1 n1 e1)).setCell ⟨w.heap.size+1,2,none⟩ (.bool f)).setCell ⟨w.heap.size+1,3,none⟩ (.slice (some ⟨g,0,none⟩) (n3+1) c6)).heap.size [.slice b0 n0 e0,.slice b1 n1 e1,.bool f,.slice (some ⟨g,0,none⟩) (n3+1) c6] (ss,cs,f,kw bs n)):=ch (KS.out.but hbt (by omega)) (KC.out.but hbt (by omega)) (KD.out.but hbt (by omega)) (by omega) (by omega) (by omega) (by omega) (by omega) (by omega);have FB:=aa (Below.andBut KB.out hbt (by omega));exact ⟨_,_,_,rfl,by rw [HK.out];exact FIN.out,FB.out⟩
def dS (n:Int):List (List Int):=if 1<=n/\n<=20 then List.replicate n.toNat [] else []
theorem fZ (w:World) (n:Int):
 Calls Tryz.prog 202 #[.int .i64 n] w fun e w'=>∃a0 c0,e=.returned (.agg #[.slice a0 (dS n).length c0,.slice none 0 0,.bool false,.slice none 0 0]) /\
  aT.Own w' w.heap.size w'.heap.size [.slice a0 (dS n).length c0] (dS n)/\Below w.heap.size w w':=by
 obtain ⟨i0,hi,hz0,hz1,hz2⟩:=info_parts Tryz.infoIntS;by_cases h1:inB n 1 20=true
 . have hn:1<=n/\n<=20:=by unfold inB at h1;simpa using h1
   obtain ⟨k,rfl⟩:∃k:Nat,n=(k:Int):=⟨n.toNat,by omega⟩;have hk:k<=20:=by omega
   have hN:dS (k:Int)=List.replicate k []:=by unfold dS;rw [if_pos hn,Int.toNat_natCast]
   have HN:=aa hN;clear hN hn;have hA:Below w.heap.size w ((w.alloc (.cells #[.slice none 0 0,.slice none 0 0,.bool false,.slice none 0 0] 101)).alloc (.cells #[.slice none 0 0,.slice none 0 0,.bool false,.slice none 0 0] 101)):=((Below.refl _ _).alloc (Nat.le_refl _) _).alloc (by simp) _;have hB0:Box ((w.alloc (.cells #[.slice none 0 0,.slice none 0 0,.bool false,.slice none 0 0] 101)).alloc (.cells #[.slice none 0 0,.slice none 0 0,.bool false,.slice none 0 0] 101)) w.heap.size 101 #[.slice none 0 0,.slice none 0 0,.bool false,.slice none 0 0]:=(Box.new w _ _).alloc _;have hB1:Box ((w.alloc (.cells #[.slice none 0 0,.slice none 0 0,.bool false,.slice none 0 0] 101)).alloc (.cells #[.slice none 0 0,.slice none 0 0,.bool false,.slice none 0 0] 101)) (w.heap.size+1) 101 #[.slice none 0 0,.slice none 0 0,.bool false,.slice none 0 0]:=by
    have:=Box.new (w.alloc (.cells #[.slice none 0 0,.slice none 0 0,.bool false,.slice none 0 0] 101)) 101 #[.slice none 0 0,.slice none 0 0,.bool false,.slice none 0 0];rw [show (w.alloc (.cells #[.slice none 0 0,.slice none 0 0,.bool false,.slice none 0 0] 101)).heap.size=w.heap.size+1 by simp] at this;exact this
   go_enter Tryz.func202,Tryz.ntmps202
   go_wp2_with fail
   refine (aE _ _ _ _).mono ?_
   rintro e w1 ⟨rfl,hw1⟩;subst w1;go_wp2
   generalize hW:(w.alloc (.cells #[.slice none 0 0,.slice none 0 0,.bool false,.slice none 0 0] 101)).alloc (.cells #[.slice none 0 0,.slice none 0 0,.bool false,.slice none 0 0] 101)=W at hA hB0 hB1 ⊢;clear hW;go_loopw [4] (fun i wr=>∃(j:Nat) (v:Value) (fp:List Nat),j<=k/\i=.int .i64 j/\Box wr w.heap.size 101 #[.slice none 0 0,.slice none 0 0,.bool false,.slice none 0 0]/\Box wr (w.heap.size+1) 101 #[v,.slice none 0 0,.bool false,.slice none 0 0]/\aT.Mine wr [v] (List.replicate j []) fp/\(∀b∈fp,w.heap.size+1<b)/\Below w.heap.size w wr) (fun i _=>k-(intOf i).toNat)
   case atStart=>exact ⟨0,_,[],Nat.zero_le _,rfl,hB0,hB1,dc _,by simp,hA⟩
   clear hA hB0 hB1;obtain ⟨j,v,fp,hj,rfl,x0,x1,ho,hfp,hb⟩:=hrel;obtain ⟨q0,_,_,_⟩:=x1.cells4;by_cases hjn:j<k
   . have hj1:(j:Int)<(k:Int):=by omega
     have M1:=aa (((ho.alloc (.cells #[] 3)).alloc (.cells #[.slice (some ⟨wr.heap.size,0,none⟩) 0 0] 31)));have E1:=aa ((dJ (t:=ey) (E:=3) wr).alloc (.cells #[.slice (some ⟨wr.heap.size,0,none⟩) 0 0] 31));have n1:=bk (wr.alloc (.cells #[] 3)) #[.slice (some ⟨wr.heap.size,0,none⟩) 0 0] 31;rw [show (wr.alloc (.cells #[] 3)).heap.size=wr.heap.size+1 by simp] at n1;have N1:=aa n1;clear n1;have hlt:=ho.lt;have D1:=aa (show ∀b∈fp,b∉[wr.heap.size] from fun b hb hb'=>by have:=hlt b hb;simp at hb';omega);have X0:=aa ((x0.alloc (.cells #[] 3)).alloc (.cells #[.slice (some ⟨wr.heap.size,0,none⟩) 0 0] 31));have X1:=aa ((x1.alloc (.cells #[] 3)).alloc (.cells #[.slice (some ⟨wr.heap.size,0,none⟩) 0 0] 31));have F0:=aa (show w.heap.size∉fp from fun hm=>by have:=hfp _ hm;omega);have F1:=aa (show w.heap.size+1∉fp from fun hm=>by have:=hfp _ hm;omega);have HFP:=aa hfp;have BA:=aa ((hb.alloc hb.size (.cells #[] 3)).alloc (by simp;have:=hb.size;omega) (.cells #[.slice (some ⟨wr.heap.size,0,none⟩) 0 0] 31));have hsz:=x1.lt;have O1:=aa (show ∀u∈[Value.slice (some ⟨wr.heap.size,0,none⟩) 0 0],u.oneCell'=true from fun u hu=>by simp at hu;rw [hu];rfl);have L1:=aa (show (List.replicate j ([]:List Int)).length+1<=maxLen by rw [List.length_replicate];unfold maxLen;omega);have L2:=aa (show ((List.replicate j ([]:List Int)).length+1)*24<=140737488355328 by rw [List.length_replicate];omega);clear ho hlt hfp x0 x1 hb;have HREP:=aa (show List.replicate j ([]:List Int)++[[]]=List.replicate (j+1) [] by rw [List.replicate_succ']);go_wp2_with (at_builtin;refine bT aA rfl (.tmp 16) (.tmp 18) 98 rfl 31 i0 (.slice none 0 0) 24 Tryz.underlying98 hi hz0 hz1 hz2 rfl Nat.zero_lt_one v (List.replicate j []) fp rfl ?_ ⟨wr.heap.size+1,0,none⟩ 1 [.slice (some ⟨wr.heap.size,0,none⟩) 0 0] [] [wr.heap.size] rfl ?_ ?_ ?_ ?_ ?_ ?_ ?_;exact M1.out;exact E1.out;exact D1.out;exact N1.out;exact O1.out;exact L1.out;exact L2.out;intro v2 w2 fp2 m1 m2 m3;rw [HREP.out] at m1;obtain ⟨a2,c2,hv2⟩:=az m1.rd;rw [List.length_replicate] at hv2;subst hv2;have y1:=X1.out.turned m3 F1.out;obtain ⟨r0,_,_,_⟩:=y1.cells4;have fz:=y1.frozen 0;have Y1:=aa y1;have HM1:=aa m1;have HM2:=aa m2;have HM3:=aa m3;clear m1 m2 m3 y1)
     have hf2:∀b∈fp2,w.heap.size+1<b:=by
      intro b hb;rcases HM2.out b hb with h|h|h
      . exact HFP.out b h
      . simp at h
        omega
      have:=h.1;simp at this
      omega
     have hmine:=HM1.out.setCell (g:=w.heap.size+1) (j:=0) (fun hm=>by have:=hf2 _ hm;omega) (.slice a2 (j+1) c2);have Z0:=aa ((X0.out.turned HM3.out F0.out).other (g:=w.heap.size+1) (by omega) 0 (.slice a2 (j+1) c2));have Z1:=aa (Y1.out.set 0 (.slice a2 (j+1) c2));have ZM:=aa hmine;have ZB:=aa ((BA.out.trans (HM3.out.below (N:=w.heap.size) (by simp;omega) (fun b hb=>by have:=HFP.out b hb;omega))).setCell (p:=⟨w.heap.size+1,0,none⟩) (by simp) (.slice a2 (j+1) c2));clear M1 E1 N1 D1 O1 L1 L2 X0 X1 F0 F1 HFP BA HM1 HM2 HM3 Y1 hmine HREP;go_roundw
     case rel=>exact ⟨j+1,_,fp2,by omega,by go_num,Z0.out,Z1.out,ZM.out,hf2,ZB.out⟩
     case measure=>simp [intOf];omega
   have e:j=k:=by omega
   subst e;obtain ⟨a0,c0,hv⟩:=az ho.rd;subst hv;rw [List.length_replicate] at q0 x1 ho;obtain ⟨_,q1,q2,q3⟩:=x1.cells4;obtain ⟨p0,p1,p2,p3⟩:=x0.cells4;have fz:=x0.frozen;have hbt:But w.heap.size (w.heap.size+1) wr ((((wr.setCell ⟨w.heap.size,0,none⟩ (.slice a0 j c0)).setCell ⟨w.heap.size,1,none⟩ (.slice none 0 0)).setCell ⟨w.heap.size,2,none⟩ (.bool false)).setCell ⟨w.heap.size,3,none⟩ (.slice none 0 0)):=
    (((But.setCell (by omega) (by omega) _).trans (But.setCell (by omega) (by omega) _)).trans (But.setCell (by omega) (by omega) _)).trans (But.setCell (by omega) (by omega) _)
   have hlt:=ho.lt;have HO:=aa ((ho.own (lo:=w.heap.size+1) (hi:=wr.heap.size) (fun b hb=>by have h1:=hfp b hb;have h2:=hlt b hb;omega)).but hbt (.inr (Nat.le_refl _)));have HB:=aa (Below.andBut hb hbt (Nat.le_refl _));have HS:=aa hbt.size;clear hbt ho hb hfp hlt x0 x1;go_wp2
   refine bodyPost_ret (v:=.agg #[.slice a0 j c0,.slice none 0 0,.bool false,.slice none 0 0]) (by simp [results,Tryz.results202,go_sem,p0,p1,p2,p3]) rfl ?_
   have hl:(dS (j:Int)).length=j:=by rw [HN.out,List.length_replicate]
   rw [hl,HN.out];exact ⟨_,_,rfl,HO.out.widen (by omega) HS.out,HB.out⟩
 have hN:dS n=[]:=by unfold dS;rw [if_neg (by intro h;apply h1;unfold inB;simp;omega)]
 rw [hN];have h1:inB n 1 20=false:=by simpa using h1
 have hA:Below w.heap.size w (w.alloc (.cells #[.slice none 0 0,.slice none 0 0,.bool false,.slice none 0 0] 101)):=(Below.refl _ _).alloc (Nat.le_refl _) _;go_enter Tryz.func202,Tryz.ntmps202
 go_wp2_with fail
 refine (aE _ _ _ _).mono ?_
 rintro e w1 ⟨rfl,hw1⟩;subst w1;go_wp2
 refine bodyPost_ret (v:=.agg #[.slice none 0 0,.slice none 0 0,.bool false,.slice none 0 0]) (by simp [results,Tryz.results202,go_sem]) rfl ⟨none,0,rfl,ij _ _ _,hA⟩
theorem oT {bs:List Int} (ha:∀i,i+1<bs.length->bs.getD i 0<bs.getD (i+1) 0):bs.Pairwise (·<·):=by
 have mono:∀d i,i+(d+1)<bs.length->bs.getD i 0<bs.getD (i+(d+1)) 0:=by
  intro d;induction d with
  | zero=>intro i hi;exact ha i hi
  | succ d ih=>
   intro i hi;have h1:=ih i (by omega);have h2:=ha (i+(d+1)) (by omega);have e:i+(d+1)+1=i+(d+1+1):=by omega
   rw [e] at h2;omega
 rw [List.pairwise_iff_getElem];intro i j hi hj hij;have h:=mono (j-i-1) i (by omega);have e:i+(j-i-1+1)=j:=by omega
 rw [e,List.getD_eq_getElem?_getD,List.getD_eq_getElem?_getD,List.getElem?_eq_getElem hi,List.getElem?_eq_getElem hj] at h;exact h
theorem lN (n:Int) (bs:List Int):ik n bs=true ↔ (∀x∈bs,0<=x/\x<=n-1)/\bs.Pairwise (·<·):=by
 unfold ik;rw [List.all_eq_true];constructor
 . intro h
   refine ⟨fun x hx=>?_,oT (fun i hi=>?_)⟩
   . obtain ⟨i,hi⟩:=List.mem_iff_getElem?.1 hx
     have hil:i<bs.length:=(List.getElem?_eq_some_iff.1 hi).1;have h1:=h i (List.mem_range.2 hil);unfold dA inB at h1;rw [List.getD_eq_getElem?_getD,hi] at h1;simp at h1
     omega
   have h1:=h (i+1) (List.mem_range.2 hi);unfold dA at h1;simp at h1
   rw [List.getD_eq_getElem?_getD,List.getD_eq_getElem?_getD];exact h1.2
 rintro ⟨h1,h2⟩ i hi;have hil:i<bs.length:=List.mem_range.1 hi;unfold dA inB;have e:bs.getD i 0=bs[i]:=by rw [List.getD_eq_getElem?_getD,List.getElem?_eq_getElem hil];rfl
 have h3:=h1 bs[i] (List.getElem_mem hil);rw [e];simp only [Bool.and_eq_true,Bool.or_eq_true,decide_eq_true_eq]
 refine ⟨⟨by omega,by omega⟩,?_⟩
 by_cases h0:i=0
 . exact .inl h0
 right
 have h4:=List.pairwise_iff_getElem.1 h2 (i-1) i (by omega) hil (by omega);rw [List.getD_eq_getElem?_getD,List.getElem?_eq_getElem (by omega:i-1<bs.length)];exact h4
theorem ec (ss:List (List Int)) (cs:List (Int×List Int)) (bs:List Int):bp ss cs bs=true ↔ (∀x∈ss,da x=true)/\(∀x∈cs,wrB ss.length x=true)/\ik ss.length bs=true/\inB ss.length 1 20=true/\cs.length<=60:=by
 unfold bp;simp only [Bool.and_eq_true,List.all_eq_true,decide_eq_true_eq]
theorem lO {ss:List (List Int)} {cs:List (Int×List Int)} {bs:List Int} (h:bp ss cs bs=true) (ks:List (Int×List Int)) (hk:∀x∈ks,x∈cs):bp (dr ss ks) [] bs=true:=by
 obtain ⟨h1,h2,h3,h4,_⟩:=(ec _ _ _).1 h;rw [ec,cI];refine ⟨fun x hx=>?_,by simp,h3,h4,by simp⟩
 unfold dr at hx;obtain ⟨k,hkr,rfl⟩:=List.mem_map.1 hx;have hkl:k<ss.length:=List.mem_range.1 hkr;cases hl:cT ks (k:Int) with
 | some zs=>
  have h5:=h2 _ (hk _ (km hl));unfold wrB at h5;simp only [Bool.and_eq_true] at h5
  exact h5.2
 | none=>exact h1 _ (List.mem_of_getElem? (kp hkl))
theorem lP {ss:List (List Int)} {cs:List (Int×List Int)} {f:Bool} {bs:List Int} {n:Int} {sw:List Int} (h:cV ss cs f bs n sw=true):bp ss (cs++[(n,sw)]) (cO bs n)=true:=by
 unfold cV at h;simp only [Bool.and_eq_true,decide_eq_true_eq] at h
 obtain ⟨hM,_,hI,hS,hL⟩:=h;obtain ⟨h1,h2,h3,h4,_⟩:=(ec _ _ _).1 hM;rw [ec];refine ⟨h1,fun x hx=>?_,?_,h4,by rw [List.length_append];simp;omega⟩
 . rcases List.mem_append.1 hx with hx|hx
   . exact h2 x hx
   simp at hx
   subst hx;unfold wrB;rw [hI,hS];rfl
 rw [lN] at h3 ⊢;exact ⟨fun x hx=>h3.1 x (List.mem_filter.1 hx).1,h3.2.filter _⟩
theorem lQ {ss:List (List Int)} {cs:List (Int×List Int)} {bs:List Int} {n:Int} (h:ku ss cs bs n=true):bp ss cs (kw bs n)=true:=by
 unfold ku at h;simp only [Bool.and_eq_true,Bool.not_eq_true'] at h
 obtain ⟨hM,hI,hH⟩:=h;have hasc:=tQ hM;obtain ⟨h1,h2,h3,h4,h5⟩:=(ec _ _ _).1 hM;rw [ec];refine ⟨h1,h2,?_,h4,h5⟩
 rw [lN] at h3 ⊢;have hn:∀x∈bs,x≠n:=by
  intro x hx e;unfold inL at hH;rw [List.any_eq_false] at hH;exact hH x hx (by simp [e])
 unfold inB at hI;simp at hI
 refine ⟨fun x hx=>?_,?_⟩
 . unfold kw at hx
   rcases List.mem_append.1 hx with hx|hx
   . exact h3.1 x (List.mem_of_mem_take hx)
   rcases List.mem_cons.1 hx with rfl|hx
   . omega
   exact h3.1 x (List.mem_of_mem_drop hx)
 have hp:=h3.2;have hle:∀(l:List Int),l.Pairwise (·<·)->(∀x∈l,x≠n)->∃k,k<=l.length/\(∀x∈l.take k,x<=n)/\(∀x∈l.drop k,n<x):=by
  intro l;induction l with
  | nil=>intro _ _;exact ⟨0,by simp,by simp,by simp⟩
  | cons y l ih=>
   intro hp hne;rw [List.pairwise_cons] at hp;by_cases hy:y<=n
   . obtain ⟨k,k1,k2,k3⟩:=ih hp.2 (fun x hx=>hne x (List.mem_cons_of_mem _ hx))
     refine ⟨k+1,by simp;omega,fun x hx=>?_,by simpa using k3⟩
     rw [List.take_succ_cons] at hx;rcases List.mem_cons.1 hx with rfl|hx
     . exact hy
     exact k2 x hx
   refine ⟨0,by simp,by simp,fun x hx=>?_⟩
   rw [List.drop_zero] at hx;rcases List.mem_cons.1 hx with rfl|hx
   . omega
   have:=hp.1 x hx;omega
 obtain ⟨k,k1,k2,k3⟩:=hle bs hp hn;rw [qQ k2 k3 k1];rw [List.pairwise_append,List.pairwise_cons];refine ⟨hp.sublist (List.take_sublist _ _),⟨k3,hp.sublist (List.drop_sublist _ _)⟩,fun a ha b hb=>?_⟩
 have h6:=k2 a ha;have h7:=hn a (List.mem_of_mem_take ha);rcases List.mem_cons.1 hb with rfl|hb
 . omega
 have:=k3 b hb;omega
theorem lR {n:Int} (h1:1<=n) (h2:n<=20):bp (dS n) [] []=true:=by
 rw [ec];unfold dS;rw [if_pos ⟨h1,h2⟩];refine ⟨fun x hx=>?_,by simp,by rw [lN];simp,?_,by simp⟩
 . rw [List.eq_of_mem_replicate hx]
   decide
 unfold inB;simp
 omega
end Go.Proofs.YtejeekndbnpmoaaGreat
