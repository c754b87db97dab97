/-
 What a list of disk operations makes of an array, where the power may go within it: plain lemmas. No condition.
-/
import Derived.Test.YtgjomldcnjjpaaaGreatRowArrsSq14
import Derived.Test.YtgjomldcnjjpaaaGreatRowArrsSq29
import Derived.Test.YtgjomldcnjjpaaaGreatRowArrsSq8
import Derived.Test.YtgjomldcnjjpaaaGreatRowArrsSq16
import Derived.Test.YtgjomldcnjjpaaaGreatRowArrsSq19
import Derived.Test.YtgjomldcnjjpaaaGreatRowArrsSq15

set_option maxRecDepth 100000
set_option maxHeartbeats 8000000
set_option linter.unusedSimpArgs false

namespace Go.Proofs.YtgjomldcnjjpaaaGreat
open Go.RowKit

def sS (ss:List (List Int)) (cs:List (Int×List Int)) (f:Bool) (bs:List Int) (x:Sup):List (Int×List Int):=if ft x=true then dS ss cs f bs (x.gen % 2) (dE x) else cs
def sT (ss:List (List Int)) (cs:List (Int×List Int)) (f:Bool) (bs:List Int) (x:Sup):List Int:=if ft x=true then dT ss cs f bs (x.gen % 2) (dE x) else bs
def dZ (w:World) (B:Nat) (v0 v1 v2 v3:Value):World:=(((w.setCell ⟨B,0,none⟩ v0).setCell ⟨B,1,none⟩ v1).setCell ⟨B,2,none⟩ v2).setCell ⟨B,3,none⟩ v3
theorem dz (w:World) (B:Nat) (v0 v1 v2 v3:Value):But B (B+1) w (dZ w B v0 v1 v2 v3):=by
 unfold dZ;exact (((But.setCell (by omega) (by omega) _).trans (But.setCell (by omega) (by omega) _)).trans (But.setCell (by omega) (by omega) _)).trans (But.setCell (by omega) (by omega) _)
theorem ka {w:World} {B:Nat} {T:TypeId} {x0 x1 x2 x3:Value} (h:Box w B T #[x0,x1,x2,x3]) (v0 v1 v2 v3:Value):Box (dZ w B v0 v1 v2 v3) B T #[v0,v1,v2,v3]:=by
 unfold dZ;have:=(((h.set 0 v0).set 1 v1).set 2 v2).set 3 v3;simpa using this
theorem bZ {w:World} {E:TypeId} {lo hi:Nat} {v0 v1 v3:Value} {f:Bool} {d:(cu E).D} (h:(cu E).Own w lo hi [v0,v1,.bool f,v3] d):∃a0 l0 c0 a1 l1 c1 a3 l3 c3,v0=.slice a0 l0 c0/\v1=.slice a1 l1 c1/\v3=.slice a3 l3 c3:=by
 obtain ⟨a0,c0,a1,c1,a3,c3,h0,h1,_,h3,_⟩:=qv h.rd;exact ⟨a0,_,c0,a1,_,c1,a3,_,c3,h0,h1,h3⟩
theorem vt (x:Sup):(dE x).length<=9:=by
 unfold dE;split<;>simp
theorem dL (w:World) (E:TypeId) (a0 a1 a3:Option Addr) (n0 c0 n1 c1 n3 c3:Nat) (ss:List (List Int)) (cs:List (Int×List Int)) (f:Bool) (bs:List Int) (x:Sup) (h0:aU.Rd w [.slice a0 n0 c0] ss) (h1:(aW E).Rd w [.slice a1 n1 c1] cs) (h3:aD.Rd w [.slice a3 n3 c3] bs) (hw:aM (ss,cs,f,bs)<=2097152):
 Calls Tryz.prog 56 #[.agg #[.slice a0 n0 c0,.slice a1 n1 c1,.bool f,.slice a3 n3 c3],.agg #[.int .i64 x.id,.int .i64 x.gen,.int .i64 x.role,.int .i64 x.n,.int .i64 x.s,.int .i64 x.tail,.int .i64 x.lost,.int .i64 x.xW]] w fun e w'=>∃v0 v1 v3,e=.returned (.agg #[v0,v1,.bool f,v3])/\(cu 119).Own w' w.heap.size w'.heap.size [v0,v1,.bool f,v3] (ss,sS ss cs f bs x,f,sT ss cs f bs x)/\Below w.heap.size w w':=by
 have hA:=((af w (.cells #[.slice a0 n0 c0,.slice a1 n1 c1,.bool f,.slice a3 n3 c3] 55)).alloc (by simp) (.cells #[.int .i64 x.id,.int .i64 x.gen,.int .i64 x.role,.int .i64 x.n,.int .i64 x.s,.int .i64 x.tail,.int .i64 x.lost,.int .i64 x.xW] 71)).alloc (by simp;omega) (.cells #[.slice none 0 0,.slice none 0 0,.bool false,.slice none 0 0] 55);have M0:=((Box.new w 55 #[.slice a0 n0 c0,.slice a1 n1 c1,.bool f,.slice a3 n3 c3]).alloc (.cells #[.int .i64 x.id,.int .i64 x.gen,.int .i64 x.role,.int .i64 x.n,.int .i64 x.s,.int .i64 x.tail,.int .i64 x.lost,.int .i64 x.xW] 71)).alloc (.cells #[.slice none 0 0,.slice none 0 0,.bool false,.slice none 0 0] 55);have S0:=(Box.new (w.alloc (.cells #[.slice a0 n0 c0,.slice a1 n1 c1,.bool f,.slice a3 n3 c3] 55)) 71 #[.int .i64 x.id,.int .i64 x.gen,.int .i64 x.role,.int .i64 x.n,.int .i64 x.s,.int .i64 x.tail,.int .i64 x.lost,.int .i64 x.xW]).alloc (.cells #[.slice none 0 0,.slice none 0 0,.bool false,.slice none 0 0] 55);have R0:=Box.new ((w.alloc (.cells #[.slice a0 n0 c0,.slice a1 n1 c1,.bool f,.slice a3 n3 c3] 55)).alloc (.cells #[.int .i64 x.id,.int .i64 x.gen,.int .i64 x.role,.int .i64 x.n,.int .i64 x.s,.int .i64 x.tail,.int .i64 x.lost,.int .i64 x.xW] 71)) 55 #[.slice none 0 0,.slice none 0 0,.bool false,.slice none 0 0];rw [World.size_alloc] at S0;rw [World.size_alloc,World.size_alloc] at R0;obtain ⟨x0,x1,x2,x3,x4,x5,x6,x7⟩:=S0.cells8;go_enter Tryz.func56,Tryz.ntmps56
 go_wp2_with fail
 generalize ((w.alloc (.cells #[.slice a0 n0 c0,.slice a1 n1 c1,.bool f,.slice a3 n3 c3] 55)).alloc (.cells #[.int .i64 x.id,.int .i64 x.gen,.int .i64 x.role,.int .i64 x.n,.int .i64 x.s,.int .i64 x.tail,.int .i64 x.lost,.int .i64 x.xW] 71)).alloc (.cells #[.slice none 0 0,.slice none 0 0,.bool false,.slice none 0 0] 55)=W at hA M0 S0 R0 x0 x1 x2 x3 x4 x5 x6 x7 ⊢;refine (eC _ x).mono ?_
 rintro e w1 ⟨rfl,b1⟩;have M1:=M0.below b1 M0.lt;have S1:=S0.below b1 S0.lt;have R1:=R0.below b1 R0.lt;have B1:=Below.andThen hA b1;clear x0 x1 x2 x3 x4 x5 x6 x7 M0 S0 R0 hA b1;obtain ⟨q0,q1,q2,q3⟩:=M1.cells4;have zR:=R1.lt;have zS:=S1.lt;have zM:=M1.lt;by_cases hx:ft x=true
 . have hg:=(eV.1 hx).2.2.2.2.1
   have e1:x.gen.tmod 2=x.gen % 2:=Int.tmod_eq_emod_of_nonneg hg.1;have HC:Hid (sS ss cs f bs x=dS ss cs f bs (x.gen % 2) (dE x)):=by unfold Hid sS;rw [if_pos hx]
   have HB:Hid (sT ss cs f bs x=dT ss cs f bs (x.gen % 2) (dE x)):=by unfold Hid sT;rw [if_pos hx]
   have hpl:=vt x;obtain ⟨x0,x1,x2,x3,x4,x5,x6,x7⟩:=S1.cells8;have HB1:=aa B1;have HR1:=aa R1;clear B1 R1;have hS:∀w',Box w' w.heap.size 55 #[.slice a0 n0 c0,.slice a1 n1 c1,.bool f,.slice a3 n3 c3]->Box w' (w.heap.size+1) 71 #[.int .i64 x.id,.int .i64 x.gen,.int .i64 x.role,.int .i64 x.n,.int .i64 x.s,.int .i64 x.tail,.int .i64 x.lost,.int .i64 x.xW]->w'.cell? ⟨w.heap.size,0,none⟩=some (.slice a0 n0 c0)/\w'.cell? ⟨w.heap.size,1,none⟩=some (.slice a1 n1 c1)/\w'.cell? ⟨w.heap.size,2,none⟩=some (.bool f)/\w'.cell? ⟨w.heap.size,3,none⟩=some (.slice a3 n3 c3)/\w'.cell? ⟨w.heap.size+1,0,none⟩=some (.int .i64 x.id)/\w'.cell? ⟨w.heap.size+1,1,none⟩=some (.int .i64 x.gen)/\w'.cell? ⟨w.heap.size+1,2,none⟩=some (.int .i64 x.role)/\w'.cell? ⟨w.heap.size+1,3,none⟩=some (.int .i64 x.n)/\w'.cell? ⟨w.heap.size+1,4,none⟩=some (.int .i64 x.s)/\w'.cell? ⟨w.heap.size+1,5,none⟩=some (.int .i64 x.tail)/\w'.cell? ⟨w.heap.size+1,6,none⟩=some (.int .i64 x.lost)/\w'.cell? ⟨w.heap.size+1,7,none⟩=some (.int .i64 x.xW):=fun w' hm hs=>⟨hm.cell 0,hm.cell 1,hm.cell 2,hm.cell 3,hs.cell 0,hs.cell 1,hs.cell 2,hs.cell 3,hs.cell 4,hs.cell 5,hs.cell 6,hs.cell 7⟩;have hD:∀w',Box w' w.heap.size 55 #[.slice a0 n0 c0,.slice a1 n1 c1,.bool f,.slice a3 n3 c3]->Box w' (w.heap.size+1) 71 #[.int .i64 x.id,.int .i64 x.gen,.int .i64 x.role,.int .i64 x.n,.int .i64 x.s,.int .i64 x.tail,.int .i64 x.lost,.int .i64 x.xW]->w'.drew.cell? ⟨w.heap.size,0,none⟩=some (.slice a0 n0 c0)/\w'.drew.cell? ⟨w.heap.size,1,none⟩=some (.slice a1 n1 c1)/\w'.drew.cell? ⟨w.heap.size,2,none⟩=some (.bool f)/\w'.drew.cell? ⟨w.heap.size,3,none⟩=some (.slice a3 n3 c3)/\w'.drew.cell? ⟨w.heap.size+1,0,none⟩=some (.int .i64 x.id)/\w'.drew.cell? ⟨w.heap.size+1,1,none⟩=some (.int .i64 x.gen)/\w'.drew.cell? ⟨w.heap.size+1,2,none⟩=some (.int .i64 x.role)/\w'.drew.cell? ⟨w.heap.size+1,3,none⟩=some (.int .i64 x.n)/\w'.drew.cell? ⟨w.heap.size+1,4,none⟩=some (.int .i64 x.s)/\w'.drew.cell? ⟨w.heap.size+1,5,none⟩=some (.int .i64 x.tail)/\w'.drew.cell? ⟨w.heap.size+1,6,none⟩=some (.int .i64 x.lost)/\w'.drew.cell? ⟨w.heap.size+1,7,none⟩=some (.int .i64 x.xW):=hS;have HM1:=aa M1;have HS1:=aa S1;have nA:Hid (w.heap.size≠w1.heap.size):=by unfold Hid;omega
   have nA':Hid (w.heap.size+1≠w1.heap.size):=by unfold Hid;omega
   have ZW:Hid (w.heap.size+2<w1.heap.size):=by unfold Hid;omega
   have HG:=aa hg.1;clear M1 S1 hg;go_wp2_with fail
   go_region_held3 (fun w'=>w'.cell? ⟨w.heap.size,0,none⟩=some (.slice a0 n0 c0)/\w'.cell? ⟨w.heap.size,1,none⟩=some (.slice a1 n1 c1)/\w'.cell? ⟨w.heap.size,2,none⟩=some (.bool f)/\w'.cell? ⟨w.heap.size,3,none⟩=some (.slice a3 n3 c3)/\w'.cell? ⟨w.heap.size+1,0,none⟩=some (.int .i64 x.id)/\w'.cell? ⟨w.heap.size+1,1,none⟩=some (.int .i64 x.gen)/\w'.cell? ⟨w.heap.size+1,2,none⟩=some (.int .i64 x.role)/\w'.cell? ⟨w.heap.size+1,3,none⟩=some (.int .i64 x.n)/\w'.cell? ⟨w.heap.size+1,4,none⟩=some (.int .i64 x.s)/\w'.cell? ⟨w.heap.size+1,5,none⟩=some (.int .i64 x.tail)/\w'.cell? ⟨w.heap.size+1,6,none⟩=some (.int .i64 x.lost)/\w'.cell? ⟨w.heap.size+1,7,none⟩=some (.int .i64 x.xW))
    (first
     | (with_reducible exact hS w4 M4.out S4.out)
     | (with_reducible exact hS _ (M4.out.alloc _) (S4.out.alloc _))
     | (with_reducible exact hS _ ((((M4.out.other nA.out 0 _).other nA.out 1 _).other nA.out 2 _).other nA.out 3 _) ((((S4.out.other nA'.out 0 _).other nA'.out 1 _).other nA'.out 2 _).other nA'.out 3 _))
     | (with_reducible exact hS _ ((((M4.out.other nB.out 0 _).other nB.out 1 _).other nB.out 2 _).other nB.out 3 _) ((((S4.out.other nB'.out 0 _).other nB'.out 1 _).other nB'.out 2 _).other nB'.out 3 _))
     | (with_reducible exact hS w3 M3.out S3.out)
     | (with_reducible exact hS _ (M3.out.alloc _) (S3.out.alloc _))
     | (with_reducible exact hD _ HM1.out HS1.out)
     | (with_reducible exact hD _ (HM1.out.alloc _) (HS1.out.alloc _))
     | go_keep)
    (first
     | (go_at_call 85;refine (iY _ _ HG.out).mono ?_;rintro e w2 ⟨rfl,rfl⟩)
     | (go_at_call 86;refine (ik _ x).mono ?_;rintro e w3 ⟨pa,pl,pc,rfl,o3,b3⟩;have hpl3:=(ag o3.rd).1;have b3c:Below w1.drew.heap.size w1.drew w3:=(by with_reducible exact b3);have b3':Below w1.heap.size w1 w3:=(Below.refl w1.heap.size w1).drew.trans b3c;have M3:=aa (HM1.out.below b3' zM);have S3:=aa (HS1.out.below b3' zS);have O3:=aa o3;have hb3:=aa b3';clear b3 b3c b3' o3)
     | (go_at_call 59;have xo3:=XO3.out;refine (dy _ E _ _ _ _ _ _ _ _ _ _ _ _ ss cs f bs (x.gen % 2) (dE x) (by with_reducible exact h0.below (Below.andThen HB1.out hb3.out)) (by with_reducible exact h1.below (Below.andThen HB1.out hb3.out)) (by with_reducible exact h3.below (Below.andThen HB1.out hb3.out)) (by with_reducible exact O3.out.rd) hw (by omega)).mono ?_;rintro e w4 ⟨u0,u1,u3,rfl,o4,b4⟩;obtain ⟨fa0,fl0,fc0,fa1,fl1,fc1,fa3,fl3,fc3,hv0,hv1,hv3⟩:=bZ o4;subst hv0 hv1 hv3;have M4:=aa (M3.out.below b4 M3.out.lt);have S4:=aa (S3.out.below b4 S3.out.lt);have xo4:=xo3.below b4 xo3.lt;obtain ⟨s0,s1,s2,s3⟩:=xo4.cells4;have u0:=xo4.frozen 0;have u1:=xo4.frozen 1;have u2:=xo4.frozen 2;have u3:=xo4.frozen 3;have XO4:=aa xo4;have O4:=aa o4;have hb4:=aa b4;clear b4 o4 xo4 xo3)
     | (go_at_call 59;refine (dy _ E _ _ _ _ _ _ _ _ _ _ _ _ ss cs f bs (x.gen % 2) (dE x) (by with_reducible exact h0.below (Below.andThen HB1.out hb3.out)) (by with_reducible exact h1.below (Below.andThen HB1.out hb3.out)) (by with_reducible exact h3.below (Below.andThen HB1.out hb3.out)) (by with_reducible exact O3.out.rd) hw (by omega)).mono ?_;rintro e w4 ⟨u0,u1,u3,rfl,o4,b4⟩;obtain ⟨fa0,fl0,fc0,fa1,fl1,fc1,fa3,fl3,fc3,hv0,hv1,hv3⟩:=bZ o4;subst hv0 hv1 hv3;have M4:=aa (M3.out.below b4 M3.out.lt);have S4:=aa (S3.out.below b4 S3.out.lt);have O4:=aa o4;have hb4:=aa b4;clear b4 o4)
     | (go_at_call 59;refine (dy _ E _ _ _ _ _ _ _ _ _ _ _ _ ss cs f bs (x.gen % 2) (dE x) (by with_reducible exact h0.below ((Below.andThen HB1.out hb3.out).alloc (Below.andThen HB1.out hb3.out).size _)) (by with_reducible exact h1.below ((Below.andThen HB1.out hb3.out).alloc (Below.andThen HB1.out hb3.out).size _)) (by with_reducible exact h3.below ((Below.andThen HB1.out hb3.out).alloc (Below.andThen HB1.out hb3.out).size _)) (by with_reducible exact (O3.out.rd.below (af w3 _))) hw (by omega)).mono ?_;rintro e w4 ⟨u0,u1,u3,rfl,o4,b4⟩;obtain ⟨fa0,fl0,fc0,fa1,fl1,fc1,fa3,fl3,fc3,hv0,hv1,hv3⟩:=bZ o4;subst hv0 hv1 hv3;have M4:=aa ((M3.out.alloc (.cells #[.slice none 0 0,.slice none 0 0,.bool false,.slice none 0 0] 55)).below b4 (M3.out.alloc (.cells #[.slice none 0 0,.slice none 0 0,.bool false,.slice none 0 0] 55)).lt);have S4:=aa ((S3.out.alloc (.cells #[.slice none 0 0,.slice none 0 0,.bool false,.slice none 0 0] 55)).below b4 (S3.out.alloc (.cells #[.slice none 0 0,.slice none 0 0,.bool false,.slice none 0 0] 55)).lt);have xp4:=(Box.new w3 55 #[.slice none 0 0,.slice none 0 0,.bool false,.slice none 0 0]).below b4 (by simp);obtain ⟨s0,s1,s2,s3⟩:=xp4.cells4;have u0:=xp4.frozen 0;have u1:=xp4.frozen 1;have u2:=xp4.frozen 2;have u3:=xp4.frozen 3;have z3:=hb3.out.size;have zW:=ZW.out;have nB:Hid (w.heap.size≠w3.heap.size):=(by unfold Hid;omega);have nB':Hid (w.heap.size+1≠w3.heap.size):=(by unfold Hid;omega);have XP4:=aa xp4;have O4:=aa o4;have hb4:=aa b4;clear b4 o4 xp4 z3 zW)
     | (go_at_call 86;refine (ik _ x).mono ?_;rintro e w3 ⟨pa,pl,pc,rfl,o3,b3⟩;have hpl3:=(ag o3.rd).1;have ba:Below w1.heap.size w1 (w1.alloc (.cells #[.slice none 0 0,.slice none 0 0,.bool false,.slice none 0 0] 55)):=af w1 _;have b3c:Below (w1.alloc (.cells #[.slice none 0 0,.slice none 0 0,.bool false,.slice none 0 0] 55)).drew.heap.size (w1.alloc (.cells #[.slice none 0 0,.slice none 0 0,.bool false,.slice none 0 0] 55)).drew w3:=(by with_reducible exact b3);have b3a:Below (w1.alloc (.cells #[.slice none 0 0,.slice none 0 0,.bool false,.slice none 0 0] 55)).heap.size (w1.alloc (.cells #[.slice none 0 0,.slice none 0 0,.bool false,.slice none 0 0] 55)) w3:=(Below.refl _ (w1.alloc (.cells #[.slice none 0 0,.slice none 0 0,.bool false,.slice none 0 0] 55))).drew.trans b3c;have b3':Below w1.heap.size w1 w3:=Below.andThen ba b3a;have M3:=aa (HM1.out.below b3' zM);have S3:=aa (HS1.out.below b3' zS);have XO3:=aa ((Box.new w1 55 #[.slice none 0 0,.slice none 0 0,.bool false,.slice none 0 0]).below b3a (by simp));have O3:=aa o3;have hb3:=aa b3';clear b3 b3c b3a ba b3' o3))
   . have z4:=hb4.out.size
     have z3:=hb3.out.size;have zW:=ZW.out;have B4:=Below.andThen HB1.out (Below.andThen hb3.out hb4.out);have RF0:=(HR1.out.below (Below.andThen hb3.out hb4.out) zR).alloc (.cells #[.slice fa0 fl0 fc0,.slice fa1 fl1 fc1,.bool f,.slice fa3 fl3 fc3] 55);have YF0:=Box.new w4 55 #[.slice fa0 fl0 fc0,.slice fa1 fl1 fc1,.bool f,.slice fa3 fl3 fc3];have OF0:=(O4.out.below (af w4 (.cells #[.slice fa0 fl0 fc0,.slice fa1 fl1 fc1,.bool f,.slice fa3 fl3 fc3] 55))).widen (lo':=w1.heap.size) (hi':=(w4.alloc (.cells #[.slice fa0 fl0 fc0,.slice fa1 fl1 fc1,.bool f,.slice fa3 fl3 fc3] 55)).heap.size) (by omega) (by simp);have BF0:=B4.alloc B4.size (.cells #[.slice fa0 fl0 fc0,.slice fa1 fl1 fc1,.bool f,.slice fa3 fl3 fc3] 55);have ZF0:w.heap.size+2<w1.heap.size:=zW;clear B4;have RF:=RF0;have HBF:=aa BF0;have HYF:=aa YF0;have HOF:=aa OF0;have zF:=ZF0;clear RF0 BF0 YF0 OF0 ZF0;generalize w4.alloc (.cells #[.slice fa0 fl0 fc0,.slice fa1 fl1 fc1,.bool f,.slice fa3 fl3 fc3] 55)=WF at RF HBF HYF HOF zF ⊢;generalize w4.heap.size=BO at HYF ⊢;obtain ⟨y0,y1,y2,y3⟩:=HYF.out.cells4;obtain ⟨r0,r1,r2,r3⟩:=RF.cells4;have fz:=RF.frozen;have hbt:=dz WF (w.heap.size+1+1) (.slice fa0 fl0 fc0) (.slice fa1 fl1 fc1) (.bool f) (.slice fa3 fl3 fc3);have zt:=hbt.size;have FO:=aa ((HOF.out.but hbt (.inr (by omega))).widen (lo':=w.heap.size) (hi':=(dZ WF (w.heap.size+1+1) (.slice fa0 fl0 fc0) (.slice fa1 fl1 fc1) (.bool f) (.slice fa3 fl3 fc3)).heap.size) (by omega) hbt.size);rw [←HC.out,←HB.out] at FO;have FB:=aa (Below.andBut HBF.out hbt (by omega));unfold dZ at FO FB;clear hbt RF HBF HYF HOF zt;go_wp2
     refine bodyPost_ret (v:=.agg #[.slice fa0 fl0 fc0,.slice fa1 fl1 fc1,.bool f,.slice fa3 fl3 fc3]) (by simp [results,Tryz.results56,go_sem,r0,r1,r2,r3]) rfl ?_
     exact ⟨_,_,_,rfl,FO.out,FB.out⟩
   . have xo4:=XP4.out
     have zal:(w3.alloc (.cells #[.slice none 0 0,.slice none 0 0,.bool false,.slice none 0 0] 55)).heap.size=w3.heap.size+1:=by simp
     have z4:=hb4.out.size;have z3:=hb3.out.size;have zW:=ZW.out;have hbs:=dz w4 w3.heap.size (.slice fa0 fl0 fc0) (.slice fa1 fl1 fc1) (.bool f) (.slice fa3 fl3 fc3);have zs:=hbs.size;have B4:=Below.andThen HB1.out (Below.andThen hb3.out (Below.andThen (af w3 _) hb4.out));have RF0:=(HR1.out.below (Below.andThen hb3.out (Below.andThen (af w3 _) hb4.out)) zR).kept (hbs.block _ (by omega) (by omega));have YF0:=(((xo4.set 0 (.slice fa0 fl0 fc0)).set 1 (.slice fa1 fl1 fc1)).set 2 (.bool f)).set 3 (.slice fa3 fl3 fc3);have OF0:=((O4.out.but hbs (.inr (by omega))).widen (lo':=w1.heap.size) (hi':=(dZ w4 w3.heap.size (.slice fa0 fl0 fc0) (.slice fa1 fl1 fc1) (.bool f) (.slice fa3 fl3 fc3)).heap.size) (by omega) zs);have BF0:=Below.andBut B4 hbs (by omega);have ZF0:w.heap.size+2<w1.heap.size:=zW;unfold dZ at RF0 OF0 BF0;clear hbs zs B4 xo4;have RF:=RF0;have HBF:=aa BF0;have HYF:=aa YF0;have HOF:=aa OF0;have zF:=ZF0;clear RF0 BF0 YF0 OF0 ZF0;generalize ((((w4.setCell ⟨w3.heap.size,0,none⟩ (.slice fa0 fl0 fc0)).setCell ⟨w3.heap.size,1,none⟩ (.slice fa1 fl1 fc1)).setCell ⟨w3.heap.size,2,none⟩ (.bool f)).setCell ⟨w3.heap.size,3,none⟩ (.slice fa3 fl3 fc3))=WF at RF HBF HYF HOF zF ⊢;generalize w3.heap.size=BO at HYF ⊢;obtain ⟨y0,y1,y2,y3⟩:=HYF.out.cells4;obtain ⟨r0,r1,r2,r3⟩:=RF.cells4;have fz:=RF.frozen;have hbt:=dz WF (w.heap.size+1+1) (.slice fa0 fl0 fc0) (.slice fa1 fl1 fc1) (.bool f) (.slice fa3 fl3 fc3);have zt:=hbt.size;have FO:=aa ((HOF.out.but hbt (.inr (by omega))).widen (lo':=w.heap.size) (hi':=(dZ WF (w.heap.size+1+1) (.slice fa0 fl0 fc0) (.slice fa1 fl1 fc1) (.bool f) (.slice fa3 fl3 fc3)).heap.size) (by omega) hbt.size);rw [←HC.out,←HB.out] at FO;have FB:=aa (Below.andBut HBF.out hbt (by omega));unfold dZ at FO FB;clear hbt RF HBF HYF HOF zt;go_wp2
     refine bodyPost_ret (v:=.agg #[.slice fa0 fl0 fc0,.slice fa1 fl1 fc1,.bool f,.slice fa3 fl3 fc3]) (by simp [results,Tryz.results56,go_sem,r0,r1,r2,r3]) rfl ?_
     exact ⟨_,_,_,rfl,FO.out,FB.out⟩
   . have xo4:=XO4.out
     have zal:=XO3.out.lt;have z4:=hb4.out.size;have z3:=hb3.out.size;have zW:=ZW.out;have hbs:=dz w4 w1.heap.size (.slice fa0 fl0 fc0) (.slice fa1 fl1 fc1) (.bool f) (.slice fa3 fl3 fc3);have zs:=hbs.size;have B4:=Below.andThen HB1.out (Below.andThen hb3.out hb4.out);have RF0:=(HR1.out.below (Below.andThen hb3.out hb4.out) zR).kept (hbs.block _ (by omega) (by omega));have YF0:=(((xo4.set 0 (.slice fa0 fl0 fc0)).set 1 (.slice fa1 fl1 fc1)).set 2 (.bool f)).set 3 (.slice fa3 fl3 fc3);have OF0:=((O4.out.but hbs (.inr (by omega))).widen (lo':=w1.heap.size) (hi':=(dZ w4 w1.heap.size (.slice fa0 fl0 fc0) (.slice fa1 fl1 fc1) (.bool f) (.slice fa3 fl3 fc3)).heap.size) (by omega) zs);have BF0:=Below.andBut B4 hbs (by omega);have ZF0:w.heap.size+2<w1.heap.size:=zW;unfold dZ at RF0 OF0 BF0;clear hbs zs B4 xo4;have RF:=RF0;have HBF:=aa BF0;have HYF:=aa YF0;have HOF:=aa OF0;have zF:=ZF0;clear RF0 BF0 YF0 OF0 ZF0;generalize ((((w4.setCell ⟨w1.heap.size,0,none⟩ (.slice fa0 fl0 fc0)).setCell ⟨w1.heap.size,1,none⟩ (.slice fa1 fl1 fc1)).setCell ⟨w1.heap.size,2,none⟩ (.bool f)).setCell ⟨w1.heap.size,3,none⟩ (.slice fa3 fl3 fc3))=WF at RF HBF HYF HOF zF ⊢;generalize w1.heap.size=BO at HYF ⊢;obtain ⟨y0,y1,y2,y3⟩:=HYF.out.cells4;obtain ⟨r0,r1,r2,r3⟩:=RF.cells4;have fz:=RF.frozen;have hbt:=dz WF (w.heap.size+1+1) (.slice fa0 fl0 fc0) (.slice fa1 fl1 fc1) (.bool f) (.slice fa3 fl3 fc3);have zt:=hbt.size;have FO:=aa ((HOF.out.but hbt (.inr (by omega))).widen (lo':=w.heap.size) (hi':=(dZ WF (w.heap.size+1+1) (.slice fa0 fl0 fc0) (.slice fa1 fl1 fc1) (.bool f) (.slice fa3 fl3 fc3)).heap.size) (by omega) hbt.size);rw [←HC.out,←HB.out] at FO;have FB:=aa (Below.andBut HBF.out hbt (by omega));unfold dZ at FO FB;clear hbt RF HBF HYF HOF zt;go_wp2
     refine bodyPost_ret (v:=.agg #[.slice fa0 fl0 fc0,.slice fa1 fl1 fc1,.bool f,.slice fa3 fl3 fc3]) (by simp [results,Tryz.results56,go_sem,r0,r1,r2,r3]) rfl ?_
     exact ⟨_,_,_,rfl,FO.out,FB.out⟩
   have xo4:=XO4.out;have zal:=XO3.out.lt;have z4:=hb4.out.size;have z3:=hb3.out.size;have zW:=ZW.out;have hbs:=dz w4 w1.heap.size (.slice fa0 fl0 fc0) (.slice fa1 fl1 fc1) (.bool f) (.slice fa3 fl3 fc3);have zs:=hbs.size;have B4:=Below.andThen HB1.out (Below.andThen hb3.out hb4.out);have RF0:=(HR1.out.below (Below.andThen hb3.out hb4.out) zR).kept (hbs.block _ (by omega) (by omega));have YF0:=(((xo4.set 0 (.slice fa0 fl0 fc0)).set 1 (.slice fa1 fl1 fc1)).set 2 (.bool f)).set 3 (.slice fa3 fl3 fc3);have OF0:=((O4.out.but hbs (.inr (by omega))).widen (lo':=w1.heap.size) (hi':=(dZ w4 w1.heap.size (.slice fa0 fl0 fc0) (.slice fa1 fl1 fc1) (.bool f) (.slice fa3 fl3 fc3)).heap.size) (by omega) zs);have BF0:=Below.andBut B4 hbs (by omega);have ZF0:w.heap.size+2<w1.heap.size:=zW;unfold dZ at RF0 OF0 BF0;clear hbs zs B4 xo4;have RF:=RF0;have HBF:=aa BF0;have HYF:=aa YF0;have HOF:=aa OF0;have zF:=ZF0;clear RF0 BF0 YF0 OF0 ZF0;generalize ((((w4.setCell ⟨w1.heap.size,0,none⟩ (.slice fa0 fl0 fc0)).setCell ⟨w1.heap.size,1,none⟩ (.slice fa1 fl1 fc1)).setCell ⟨w1.heap.size,2,none⟩ (.bool f)).setCell ⟨w1.heap.size,3,none⟩ (.slice fa3 fl3 fc3))=WF at RF HBF HYF HOF zF ⊢;generalize w1.heap.size=BO at HYF ⊢;obtain ⟨y0,y1,y2,y3⟩:=HYF.out.cells4;obtain ⟨r0,r1,r2,r3⟩:=RF.cells4;have fz:=RF.frozen;have hbt:=dz WF (w.heap.size+1+1) (.slice fa0 fl0 fc0) (.slice fa1 fl1 fc1) (.bool f) (.slice fa3 fl3 fc3);have zt:=hbt.size;have FO:=aa ((HOF.out.but hbt (.inr (by omega))).widen (lo':=w.heap.size) (hi':=(dZ WF (w.heap.size+1+1) (.slice fa0 fl0 fc0) (.slice fa1 fl1 fc1) (.bool f) (.slice fa3 fl3 fc3)).heap.size) (by omega) hbt.size);rw [←HC.out,←HB.out] at FO;have FB:=aa (Below.andBut HBF.out hbt (by omega));unfold dZ at FO FB;clear hbt RF HBF HYF HOF zt;go_wp2
   refine bodyPost_ret (v:=.agg #[.slice fa0 fl0 fc0,.slice fa1 fl1 fc1,.bool f,.slice fa3 fl3 fc3]) (by simp [results,Tryz.results56,go_sem,r0,r1,r2,r3]) rfl ?_
   exact ⟨_,_,_,rfl,FO.out,FB.out⟩
 have hx':ft x=false:=by simpa using hx
 have HC:Hid (sS ss cs f bs x=cs):=by unfold Hid sS;rw [if_neg hx]
 have HB:Hid (sT ss cs f bs x=bs):=by unfold Hid sT;rw [if_neg hx]
 go_wp2_with fail
 refine (eP _ E _ _ _ _ _ _ _ _ _ ss cs f bs (h0.below B1) (h1.below B1) (h3.below B1) hw).mono ?_
 rintro e w2 ⟨v0,v1,v3,m1,m2,rfl,k3,k0,k1,zm1,zm2,zm3,b2⟩;have R2:=R1.below b2 zR;have B2:=Below.andThen B1 b2;obtain ⟨fa0,fc0,rfl⟩:=aC k0.rd;obtain ⟨fa1,fc1,rfl⟩:=aC k1.rd;obtain ⟨fa3,fc3,rfl⟩:=aC k3.rd;obtain ⟨r0,r1,r2,r3⟩:=R2.cells4;have fz:=R2.frozen;have zw:=b2.size;have hbt:=dz w2 (w.heap.size+1+1) (.slice fa0 ss.length fc0) (.slice fa1 cs.length fc1) (.bool f) (.slice fa3 bs.length fc3);have zt:=hbt.size;have FO:=aa (cH (lo:=w.heap.size) (hi:=(dZ w2 (w.heap.size+1+1) (.slice fa0 ss.length fc0) (.slice fa1 cs.length fc1) (.bool f) (.slice fa3 bs.length fc3)).heap.size) (f:=f) (k0.but hbt (by omega)) (k1.but hbt (by omega)) (k3.but hbt (by omega)) (by omega) (by omega) (by omega) (by omega) (by omega) (by omega));have FB:=aa (Below.andBut B2 hbt (by omega));unfold dZ at FO FB;clear hbt R1 R2 B1 B2 b2 q0 q1 q2 q3 M1 S1 k0 k1 k3 zt;go_wp2
 refine bodyPost_ret (v:=.agg #[.slice fa0 ss.length fc0,.slice fa1 cs.length fc1,.bool f,.slice fa3 bs.length fc3]) (by simp [results,Tryz.results56,go_sem,r0,r1,r2,r3]) rfl ?_
 exact ⟨_,_,_,rfl,by rw [HC.out,HB.out];exact FO.out,FB.out⟩
def rX:ai:=([],[],false,[])
def opB (x:aq):Bool:=!x.down&&!decide (x.xY=0)
def opX (x:aq):aq:=if x.down=true then x else if x.xY=0 then {x with down:=true,xY:=-1} else if 0<x.xY then {x with xY:=x.xY-1} else x
def wrM (d:ai) (n:Int) (s:List Int):ai:=(d.1,dS d.1 d.2.1 d.2.2.1 d.2.2.2 n s,d.2.2.1,dT d.1 d.2.1 d.2.2.1 d.2.2.2 n s)
def flM (d:ai):ai:=(gW d.1 d.2.1 d.2.2.1 d.2.2.2,ip d.1 d.2.1 d.2.2.1 d.2.2.2,d.2.2.1,d.2.2.2)
def doS (q:aq×List ai) (i:Nat) (f:ai->ai):aq×List ai:=
 if (q.2.getD i rX).2.2.1=true then q else if opB q.1=true then (opX q.1,q.2.set i (f (q.2.getD i rX))) else (opX q.1,q.2)
def gT (q:aq×List ai) (i:Nat) (n:Int) (s:List Int):aq×List ai:=doS q i fun d=>wrM d n s
def cC (q:aq×List ai) (j:Nat):aq×List ai:=(List.range j).foldl (fun q i=>doS q i flM) q
def tp (x:aq) (i:Nat):Sup:=⟨x.id,x.gen,(i:Int),x.n,x.s,x.tail,x.lost,x.xW⟩
def fR (q:aq×List ai) (j:Nat):aq×List ai:=(List.range j).foldl (fun q i=>gT q i (q.1.gen % 2) (dE (tp q.1 i))) q
def ge (q:aq×List ai):aq×List ai:=cC (fR ({q.1 with gen:=q.1.gen+1},q.2) q.2.length) q.2.length
def et (q:aq×List ai):aq×List ai:=if (cC q q.2.length).1.down=true then cC q q.2.length else ge ({(cC q q.2.length).1 with tail:=(cC q q.2.length).1.seq},(cC q q.2.length).2)
def dh (ms:List ai):Prop:=∀(i:Nat) (d:ai),ms[i]?=some d->bF d.1 d.2.1 d.2.2.2=true
def ef (x y:aq):Prop:=y.id=x.id/\y.n=x.n/\y.s=x.s/\y.lost=x.lost/\y.xW=x.xW/\y.seq=x.seq/\y.tail=x.tail/\y.gen=x.gen/\y.xX=x.xX/\y.xY<=1000/\(-1<=x.xY->-1<=y.xY)
theorem ef.refl {x:aq} (h:x.xY<=1000):ef x x:=⟨rfl,rfl,rfl,rfl,rfl,rfl,rfl,rfl,rfl,h,fun h=>h⟩
theorem ef.trans {x y z:aq} (h:ef x y) (k:ef y z):ef x z:=by
 obtain ⟨a1,a2,a3,a4,a5,a6,a7,a8,a9,_,b⟩:=h;obtain ⟨c1,c2,c3,c4,c5,c6,c7,c8,c9,c10,d⟩:=k;exact ⟨c1.trans a1,c2.trans a2,c3.trans a3,c4.trans a4,c5.trans a5,c6.trans a6,c7.trans a7,c8.trans a8,c9.trans a9,c10,fun h=>d (b h)⟩
theorem we {x:aq} (h:x.xY<=1000):ef x (opX x):=by
 unfold opX;split
 . exact ef.refl h
 split
 . exact ⟨rfl,rfl,rfl,rfl,rfl,rfl,rfl,rfl,rfl,by dsimp only;omega,fun _=>by dsimp only;omega⟩
 split
 . exact ⟨rfl,rfl,rfl,rfl,rfl,rfl,rfl,rfl,rfl,by dsimp only;omega,fun _=>by dsimp only;omega⟩
 exact ef.refl h
theorem iM {ms:List ai} {i:Nat} {d:ai} (h:ms[i]?=some d):ms.getD i rX=d:=by rw [List.getD_eq_getElem?_getD,h];rfl
theorem og {q:aq×List ai} {i:Nat} {d:ai} {f:ai->ai} (h:q.2[i]?=some d) (hf:d.2.2.1=true):doS q i f=q:=by unfold doS;rw [iM h,if_pos hf]
theorem wg {q:aq×List ai} {i:Nat} {d:ai} {f:ai->ai} (h:q.2[i]?=some d) (hf:d.2.2.1=false) (ho:opB q.1=false):doS q i f=(opX q.1,q.2):=by unfold doS;rw [iM h,if_neg (by simp [hf]),if_neg (by simp [ho])]
theorem ua {q:aq×List ai} {i:Nat} {d:ai} {f:ai->ai} (h:q.2[i]?=some d) (hf:d.2.2.1=false) (ho:opB q.1=true):doS q i f=(opX q.1,q.2.set i (f d)):=by unfold doS;rw [iM h,if_neg (by simp [hf]),if_pos ho]
theorem kW (q:aq×List ai) (i:Nat) (f:ai->ai):(doS q i f).2.length=q.2.length:=by
 unfold doS;split
 . rfl
 split
 . exact List.length_set
 rfl
theorem iE {q:aq×List ai} (i:Nat) (f:ai->ai) (h:q.1.xY<=1000):ef q.1 (doS q i f).1:=by
 unfold doS;split
 . exact ef.refl h
 split<;>exact we h
theorem dh.set {ms:List ai} {i:Nat} {d:ai} (h:dh ms) (hd:bF d.1 d.2.1 d.2.2.2=true):dh (ms.set i d):=by
 intro k e he;by_cases hk:k=i
 . subst hk
   by_cases hl:k<ms.length
   . rw [List.getElem?_set_self hl] at he
     simp at he
     subst he;exact hd
   rw [List.getElem?_eq_none (by rw [List.length_set];omega)] at he;cases he
 rw [List.getElem?_set_ne (fun e=>hk e.symm)] at he;exact h k e he
theorem tq {q:aq×List ai} {i:Nat} {f:ai->ai} (h:dh q.2) (hf:∀d:ai,bF d.1 d.2.1 d.2.2.2=true->bF (f d).1 (f d).2.1 (f d).2.2.2=true):dh (doS q i f).2:=by
 unfold doS;split
 . exact h
 split
 . cases hd:q.2[i]? with
   | none=>
    rw [List.set_eq_of_length_le (by rw [List.getElem?_eq_none_iff] at hd;exact hd)];exact h
   | some d=>rw [iM hd];exact h.set (hf d (h i d hd))
 exact h
theorem wh (n:Int) (s:List Int) (d:ai) (h:bF d.1 d.2.1 d.2.2.2=true):bF (wrM d n s).1 (wrM d n s).2.1 (wrM d n s).2.2.2=true:=by
 unfold wrM dS dT;dsimp only
 by_cases hw:da d.1 d.2.1 d.2.2.1 d.2.2.2 n s=true
 . rw [if_pos hw,if_pos hw]
   exact nY hw
 rw [if_neg hw,if_neg hw];exact h
theorem wj (d:ai) (h:bF d.1 d.2.1 d.2.2.2=true):bF (flM d).1 (flM d).2.1 (flM d).2.2.2=true:=by
 unfold flM gW ip;dsimp only
 by_cases hw:(bF d.1 d.2.1 d.2.2.2&&!d.2.2.1)=true
 . rw [if_pos hw,if_pos hw]
   exact nX h d.2.1 (fun _ h=>h)
 rw [if_neg hw,if_neg hw];exact h
theorem qN {q:aq×List ai} {i:Nat} {n:Int} {s:List Int} (h:dh q.2):dh (gT q i n s).2:=tq h (wh n s)
theorem jS (q:aq×List ai) (j:Nat):cC q (j+1)=doS (cC q j) j flM:=by unfold cC;rw [List.range_succ,List.foldl_append];rfl
theorem ia {q:aq×List ai} (h:dh q.2) (hf:q.1.xY<=1000):∀j,dh (cC q j).2/\ef q.1 (cC q j).1/\(cC q j).2.length=q.2.length
 | 0=>⟨h,ef.refl hf,rfl⟩
 | j+1=>by
  obtain ⟨h1,h2,h3⟩:=ia h hf j;rw [jS];exact ⟨tq h1 wj,h2.trans (iE _ _ h2.2.2.2.2.2.2.2.2.2.1),by rw [kW];exact h3⟩
theorem jT (q:aq×List ai) (j:Nat):fR q (j+1)=gT (fR q j) j ((fR q j).1.gen % 2) (dE (tp (fR q j).1 j)):=by unfold fR;rw [List.range_succ,List.foldl_append];rfl
theorem ji {q:aq×List ai} (h:dh q.2) (hf:q.1.xY<=1000):∀j,dh (fR q j).2/\ef q.1 (fR q j).1/\(fR q j).2.length=q.2.length
 | 0=>⟨h,ef.refl hf,rfl⟩
 | j+1=>by
  obtain ⟨h1,h2,h3⟩:=ji h hf j;rw [jT];exact ⟨qN h1,h2.trans (iE _ _ h2.2.2.2.2.2.2.2.2.2.1),by unfold gT;rw [kW];exact h3⟩
theorem wk {n:Int} {bs:List Int} (h:iJ n bs=true):∀i:Nat,i<bs.length->(i:Int)<=bs.getD i 0
 | 0,hi=>by
  unfold iJ at h;have:=(List.all_eq_true.1 h) 0 (List.mem_range.2 hi);unfold dV inB at this;simp at this
  have e:bs.getD 0 0=bs[0]?.getD 0:=List.getD_eq_getElem?_getD ..;rw [e];omega
 | i+1,hi=>by
  have h1:=wk h i (by omega);unfold iJ at h;have h2:=(List.all_eq_true.1 h) (i+1) (List.mem_range.2 hi);unfold dV at h2;simp only [Bool.and_eq_true,Bool.or_eq_true,decide_eq_true_eq] at h2
  rw [Nat.add_sub_cancel] at h2;omega
theorem xK {n:Int} {bs:List Int} (h:iJ n bs=true):bs=[]∨(bs.length:Int)<=n:=by
 by_cases h0:bs.length=0
 . exact .inl (List.length_eq_zero_iff.1 h0)
 right
 have h1:=wk h (bs.length-1) (by omega);unfold iJ at h;have h2:=(List.all_eq_true.1 h) (bs.length-1) (List.mem_range.2 (by omega));unfold dV at h2;simp only [Bool.and_eq_true] at h2
 have h3:=aG.1 h2.1;omega
theorem fL {ss:List (List Int)} {cs:List (Int×List Int)} {bs:List Int} (h:bF ss cs bs=true) (f:Bool):aM (ss,cs,f,bs)<=2000:=by
 have h1:=dY (ss.map List.length) 12 (fun x hx=>by
  obtain ⟨y,hy,rfl⟩:=List.mem_map.1 hx;exact (io h).1 y hy)
 have h2:=dY (cs.map fun x=>x.2.length) 12 (fun x hx=>by
  obtain ⟨y,hy,rfl⟩:=List.mem_map.1 hx;exact (io h).2 y hy)
 have h3:=iZ h;have h5:=h;unfold bF at h5;simp only [Bool.and_eq_true,decide_eq_true_eq] at h5
 have h4:cs.length<=60:=h5.2.2.2.2;have h6:bs.length<=20:=by
  rcases xK h5.2.2.1 with h7|h7
  . rw [h7];simp
  omega
 rw [List.length_map] at h1 h2;unfold aM cA aX;simp only
 omega
end Go.Proofs.YtgjomldcnjjpaaaGreat
