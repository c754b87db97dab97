/-
 The program's superHere walked. Condition: the disk weighs at most 2097152.
-/
import Derived.Test.YtgjomldcnjjpaaaGreatRowArrsSq21
import Derived.Test.YtgjomldcnjjpaaaGreatRowArrsSq10
import Derived.Test.YtgjomldcnjjpaaaGreatRowArrsSq15
import Derived.Test.YtgjomldcnjjpaaaGreatRowArrsSq16
import Derived.Test.YtgjomldcnjjpaaaGreatRowArrsSq20
import Derived.Deep.Cut

set_option maxRecDepth 100000
set_option maxHeartbeats 8000000
set_option linter.unusedSimpArgs false

namespace Go.Proofs.YtgjomldcnjjpaaaGreat
open Go.RowKit

def atB (ss:List (List Int)) (cs:List (Int×List Int)) (f:Bool) (bs:List Int) (id:Int) (j:Nat):Bool:=iy (aV ss cs f bs (j:Int)) (bp ss cs f bs (j:Int)) id (j:Int)
def atS (ss:List (List Int)) (cs:List (Int×List Int)) (f:Bool) (bs:List Int) (id:Int) (j:Nat):Sup:=atD (aV ss cs f bs (j:Int)) (bp ss cs f bs (j:Int)) id (j:Int)
def cM (k:Bool) (x y:Sup) (fb:Bool):Bool:=k&&(!fb||decide (y.gen<x.gen))
def bt (ss:List (List Int)) (cs:List (Int×List Int)) (f:Bool) (bs:List Int) (id:Int):Nat->Sup×Bool
 | 0=>(oV,false)
 | j+1=>if cM (atB ss cs f bs id j) (atS ss cs f bs id j) (bt ss cs f bs id j).1 (bt ss cs f bs id j).2=true then (atS ss cs f bs id j,true) else bt ss cs f bs id j
theorem xi {ss:List (List Int)} {cs:List (Int×List Int)} {f:Bool} {bs:List Int} {id:Int} {j:Nat} {y:Sup} {fb:Bool} (h:bt ss cs f bs id j=(y,fb)) (hb:cM (iy (aV ss cs f bs (j:Int)) (bp ss cs f bs (j:Int)) id (j:Int)) (atD (aV ss cs f bs (j:Int)) (bp ss cs f bs (j:Int)) id (j:Int)) y fb=true):
 bt ss cs f bs id (j+1)=(atD (aV ss cs f bs (j:Int)) (bp ss cs f bs (j:Int)) id (j:Int),true):=by
 have e:bt ss cs f bs id (j+1)=if cM (atB ss cs f bs id j) (atS ss cs f bs id j) (bt ss cs f bs id j).1 (bt ss cs f bs id j).2=true then (atS ss cs f bs id j,true) else bt ss cs f bs id j:=rfl;rw [e,h];exact if_pos hb
theorem uC {ss:List (List Int)} {cs:List (Int×List Int)} {f:Bool} {bs:List Int} {id:Int} {j:Nat} {y:Sup} {fb:Bool} (h:bt ss cs f bs id j=(y,fb)) (hb:cM (iy (aV ss cs f bs (j:Int)) (bp ss cs f bs (j:Int)) id (j:Int)) (atD (aV ss cs f bs (j:Int)) (bp ss cs f bs (j:Int)) id (j:Int)) y fb=false):
 bt ss cs f bs id (j+1)=(y,fb):=by
 have e:bt ss cs f bs id (j+1)=if cM (atB ss cs f bs id j) (atS ss cs f bs id j) (bt ss cs f bs id j).1 (bt ss cs f bs id j).2=true then (atS ss cs f bs id j,true) else bt ss cs f bs id j:=rfl;rw [e,h];refine if_neg ?_
 have:cM (atB ss cs f bs id j) (atS ss cs f bs id j) y fb=false:=hb;simp [this]
theorem vD {ss:List (List Int)} {cs:List (Int×List Int)} {f:Bool} {bs:List Int} {id:Int} {y:Sup} {fb:Bool} (h:bt ss cs f bs id 2=(y,fb)):Ending.returned (.tuple #[.agg #[.int .i64 y.id,.int .i64 y.gen,.int .i64 y.role,.int .i64 y.n,.int .i64 y.s,.int .i64 y.tail,.int .i64 y.lost,.int .i64 y.xW],.bool fb])=.returned (.tuple #[.agg #[.int .i64 ((bt ss cs f bs id 2).1).id,.int .i64 ((bt ss cs f bs id 2).1).gen,.int .i64 ((bt ss cs f bs id 2).1).role,.int .i64 ((bt ss cs f bs id 2).1).n,.int .i64 ((bt ss cs f bs id 2).1).s,.int .i64 ((bt ss cs f bs id 2).1).tail,.int .i64 ((bt ss cs f bs id 2).1).lost,.int .i64 ((bt ss cs f bs id 2).1).xW],.bool (bt ss cs f bs id 2).2]):=by rw [h]
theorem ke (w:World) (E:TypeId) (a0 a1 a3:Option Addr) (n0 c0 n1 c1 n3 c3:Nat) (ss:List (List Int)) (cs:List (Int×List Int)) (f:Bool) (bs:List Int) (id:Int) (h0:aU.Rd w [.slice a0 n0 c0] ss) (h1:(aW E).Rd w [.slice a1 n1 c1] cs) (h3:aD.Rd w [.slice a3 n3 c3] bs) (hw:aM (ss,cs,f,bs)<=2097152):
 Calls Tryz.prog 75 #[.agg #[.slice a0 n0 c0,.slice a1 n1 c1,.bool f,.slice a3 n3 c3],.int .i64 id] w fun e w'=>e=.returned (.tuple #[.agg #[.int .i64 ((bt ss cs f bs id 2).1).id,.int .i64 ((bt ss cs f bs id 2).1).gen,.int .i64 ((bt ss cs f bs id 2).1).role,.int .i64 ((bt ss cs f bs id 2).1).n,.int .i64 ((bt ss cs f bs id 2).1).s,.int .i64 ((bt ss cs f bs id 2).1).tail,.int .i64 ((bt ss cs f bs id 2).1).lost,.int .i64 ((bt ss cs f bs id 2).1).xW],.bool (bt ss cs f bs id 2).2])/\Below w.heap.size w w':=by
 have hA:=((af w (.cells #[.slice a0 n0 c0,.slice a1 n1 c1,.bool f,.slice a3 n3 c3] 55)).alloc (by simp) (.cells #[.int .i64 0,.int .i64 0,.int .i64 0,.int .i64 0,.int .i64 0,.int .i64 0,.int .i64 0,.int .i64 0] 71)).alloc (by simp;omega) (.cells #[.int .i64 0,.int .i64 0,.int .i64 0,.int .i64 0,.int .i64 0,.int .i64 0,.int .i64 0,.int .i64 0] 71);have M0:=((Box.new w 55 #[.slice a0 n0 c0,.slice a1 n1 c1,.bool f,.slice a3 n3 c3]).alloc (.cells #[.int .i64 0,.int .i64 0,.int .i64 0,.int .i64 0,.int .i64 0,.int .i64 0,.int .i64 0,.int .i64 0] 71)).alloc (.cells #[.int .i64 0,.int .i64 0,.int .i64 0,.int .i64 0,.int .i64 0,.int .i64 0,.int .i64 0,.int .i64 0] 71);have R0:=(Box.new (w.alloc (.cells #[.slice a0 n0 c0,.slice a1 n1 c1,.bool f,.slice a3 n3 c3] 55)) 71 #[.int .i64 0,.int .i64 0,.int .i64 0,.int .i64 0,.int .i64 0,.int .i64 0,.int .i64 0,.int .i64 0]).alloc (.cells #[.int .i64 0,.int .i64 0,.int .i64 0,.int .i64 0,.int .i64 0,.int .i64 0,.int .i64 0,.int .i64 0] 71);have T0:=Box.new ((w.alloc (.cells #[.slice a0 n0 c0,.slice a1 n1 c1,.bool f,.slice a3 n3 c3] 55)).alloc (.cells #[.int .i64 0,.int .i64 0,.int .i64 0,.int .i64 0,.int .i64 0,.int .i64 0,.int .i64 0,.int .i64 0] 71)) 71 #[.int .i64 0,.int .i64 0,.int .i64 0,.int .i64 0,.int .i64 0,.int .i64 0,.int .i64 0,.int .i64 0];rw [World.size_alloc] at R0;rw [World.size_alloc,World.size_alloc] at T0;go_enter Tryz.func75,Tryz.ntmps75
 go_wp2
 generalize ((w.alloc (.cells #[.slice a0 n0 c0,.slice a1 n1 c1,.bool f,.slice a3 n3 c3] 55)).alloc (.cells #[.int .i64 0,.int .i64 0,.int .i64 0,.int .i64 0,.int .i64 0,.int .i64 0,.int .i64 0,.int .i64 0] 71)).alloc (.cells #[.int .i64 0,.int .i64 0,.int .i64 0,.int .i64 0,.int .i64 0,.int .i64 0,.int .i64 0,.int .i64 0] 71)=W at hA M0 R0 T0 ⊢;go_loopw [7,12] (fun fv i wr=>∃(j:Nat) (y:Sup) (fb:Bool),j<=2/\i=.int .i64 j/\fv=.bool fb/\bt ss cs f bs id j=(y,fb)/\Box wr (w.heap.size+1+1) 71 #[.int .i64 y.id,.int .i64 y.gen,.int .i64 y.role,.int .i64 y.n,.int .i64 y.s,.int .i64 y.tail,.int .i64 y.lost,.int .i64 y.xW]/\Box wr (w.heap.size+1) 71 #[.int .i64 0,.int .i64 0,.int .i64 0,.int .i64 0,.int .i64 0,.int .i64 0,.int .i64 0,.int .i64 0]/\Box wr w.heap.size 55 #[.slice a0 n0 c0,.slice a1 n1 c1,.bool f,.slice a3 n3 c3]/\Below w.heap.size w wr) (fun _ i _=>2-(intOf i).toNat)
 case atStart=>exact ⟨0,oV,false,by omega,rfl,rfl,rfl,T0,R0,M0,hA⟩
 obtain ⟨j,y,fb,hj,rfl,rfl,hst,T1,R1,M1,B1⟩:=hrel;have HST:=aa hst;have zM:=M1.lt;have zR:=R1.lt;have zT:=T1.lt;clear hst;by_cases hj2:j<2
 . have k2:(j:Int)<2:=by omega
   have k1:(0:Int)<=(j:Int):=by omega
   obtain ⟨q0,q1,q2,q3⟩:=M1.cells4;go_wp2_with fail
   refine (rE _ E _ _ _ _ _ _ _ _ _ ss cs f bs id (j:Int) (h0.below B1) (h1.below B1) (h3.below B1) hw).mono ?_
   rintro e w1 ⟨rfl,b1⟩;have UP:=aa (fun h=>xi (ss:=ss) (cs:=cs) (f:=f) (bs:=bs) (id:=id) HST.out h);have DN:=aa (fun h=>uC (ss:=ss) (cs:=cs) (f:=f) (bs:=bs) (id:=id) HST.out h);generalize atD (aV ss cs f bs (j:Int)) (bp ss cs f bs (j:Int)) id (j:Int)=x at UP DN ⊢;generalize iy (aV ss cs f bs (j:Int)) (bp ss cs f bs (j:Int)) id (j:Int)=k at UP DN ⊢;have T2:=T1.below b1 zT;have R2:=R1.below b1 zR;have M2:=M1.below b1 zM;have B2:=Below.andThen B1 b1;clear q0 q1 q2 q3 T1 R1 M1 B1 b1 zM zR zT;have T3:=T2.alloc (.cells #[.int .i64 x.id,.int .i64 x.gen,.int .i64 x.role,.int .i64 x.n,.int .i64 x.s,.int .i64 x.tail,.int .i64 x.lost,.int .i64 x.xW] 71);have R3:=aa (R2.alloc (.cells #[.int .i64 x.id,.int .i64 x.gen,.int .i64 x.role,.int .i64 x.n,.int .i64 x.s,.int .i64 x.tail,.int .i64 x.lost,.int .i64 x.xW] 71));have M3:=aa (M2.alloc (.cells #[.int .i64 x.id,.int .i64 x.gen,.int .i64 x.role,.int .i64 x.n,.int .i64 x.s,.int .i64 x.tail,.int .i64 x.lost,.int .i64 x.xW] 71));have B3:=aa (B2.alloc B2.size (.cells #[.int .i64 x.id,.int .i64 x.gen,.int .i64 x.role,.int .i64 x.n,.int .i64 x.s,.int .i64 x.tail,.int .i64 x.lost,.int .i64 x.xW] 71));have X3:=Box.new w1 71 #[.int .i64 x.id,.int .i64 x.gen,.int .i64 x.role,.int .i64 x.n,.int .i64 x.s,.int .i64 x.tail,.int .i64 x.lost,.int .i64 x.xW];obtain ⟨x0,x1,x2,x3,x4,x5,x6,x7⟩:=X3.cells8;obtain ⟨t0,t1,t2,t3,t4,t5,t6,t7⟩:=T3.cells8;have fz:=T3.frozen;have TT:=aa T3;clear T2 R2 M2 B2 X3 T3;by_cases hb:cM k x y fb=true
   . have HN:=aa (UP.out hb)
     have hbt:=ec (w1.alloc (.cells #[.int .i64 x.id,.int .i64 x.gen,.int .i64 x.role,.int .i64 x.n,.int .i64 x.s,.int .i64 x.tail,.int .i64 x.lost,.int .i64 x.xW] 71)) (w.heap.size+1+1) (.int .i64 x.id) (.int .i64 x.gen) (.int .i64 x.role) (.int .i64 x.n) (.int .i64 x.s) (.int .i64 x.tail) (.int .i64 x.lost) (.int .i64 x.xW);have TF:=aa (rB TT.out (.int .i64 x.id) (.int .i64 x.gen) (.int .i64 x.role) (.int .i64 x.n) (.int .i64 x.s) (.int .i64 x.tail) (.int .i64 x.lost) (.int .i64 x.xW));have RF:=aa (R3.out.kept (hbt.block _ (by have:=R3.out.lt;omega) (by omega)));have MF:=aa (M3.out.kept (hbt.block _ (by have:=M3.out.lt;omega) (by omega)));have BF:=aa (Below.andBut B3.out hbt (by omega));unfold lA at TF RF MF BF;clear hbt UP DN R3 M3 B3 TT;unfold cM at hb;simp only [Bool.and_eq_true,Bool.or_eq_true,Bool.not_eq_true',decide_eq_true_eq] at hb
     obtain ⟨hk,hc⟩:=hb;subst hk;by_cases hf:fb=true
     . subst hf
       have hc:y.gen<x.gen:=by simpa using hc
       go_wp2
       go_roundw
       case rel=>exact ⟨j+1,x,true,by omega,by go_num,rfl,HN.out,TF.out,RF.out,MF.out,BF.out⟩
       case measure=>simp [intOf];omega
     have hf:fb=false:=by simpa using hf
     subst hf;clear hc;go_wp2
     go_roundw
     case rel=>exact ⟨j+1,x,true,by omega,by go_num,rfl,HN.out,TF.out,RF.out,MF.out,BF.out⟩
     case measure=>simp [intOf];omega
   have hb':cM k x y fb=false:=by simpa using hb
   have HN:=aa (DN.out hb');clear UP DN hb fz;unfold cM at hb';by_cases hk:k=true
   . subst hk
     by_cases hf:fb=true
     . subst hf
       have hc:¬y.gen<x.gen:=by simpa using hb'
       clear hb';go_wp2
       go_roundw
       case rel=>exact ⟨j+1,y,true,by omega,by go_num,rfl,HN.out,TT.out,R3.out,M3.out,B3.out⟩
       case measure=>simp [intOf];omega
     have hf:fb=false:=by simpa using hf
     subst hf;simp at hb'
   have hk:k=false:=by simpa using hk
   subst hk;clear hb';go_wp2
   go_roundw
   case rel=>exact ⟨j+1,y,fb,by omega,by go_num,rfl,HN.out,TT.out,R3.out,M3.out,B3.out⟩
   case measure=>simp [intOf];omega
 have e:j=2:=by omega
 subst e;obtain ⟨t0,t1,t2,t3,t4,t5,t6,t7⟩:=T1.cells8;obtain ⟨r0,r1,r2,r3,r4,r5,r6,r7⟩:=R1.cells8;have fz:=R1.frozen;have FB:=aa (Below.andBut B1 (ec wr (w.heap.size+1) (.int .i64 y.id) (.int .i64 y.gen) (.int .i64 y.role) (.int .i64 y.n) (.int .i64 y.s) (.int .i64 y.tail) (.int .i64 y.lost) (.int .i64 y.xW)) (by omega));unfold lA at FB;have HE:=aa (vD HST.out);clear M1 T1 R1 B1 HST;go_wp2
 refine bodyPost_ret (v:=.tuple #[.agg #[.int .i64 y.id,.int .i64 y.gen,.int .i64 y.role,.int .i64 y.n,.int .i64 y.s,.int .i64 y.tail,.int .i64 y.lost,.int .i64 y.xW],.bool fb]) (by simp [results,Tryz.results75,go_sem,r0,r1,r2,r3,r4,r5,r6,r7]) rfl ?_
 exact ⟨HE.out,FB.out⟩
def fZ (d:ai) (id:Int):Sup×Bool:=bt d.1 d.2.1 d.2.2.1 d.2.2.2 id 2
def dN (d:ai) (id:Int) (i:Int):Bool:=(fZ d id).2&&decide ((fZ d id).1.role=i)
theorem sX {d:ai} {id i:Int} {y:Sup} {fb:Bool} (h:fZ d id=(y,fb)):dN d id i=(fb&&decide (y.role=i)):=by unfold dN;rw [h]
theorem tP {ss:List (List Int)} {cs:List (Int×List Int)} {f:Bool} {bs:List Int} {id:Int}:∀j,(bt ss cs f bs id j).2=true->(bt ss cs f bs id j).1.id=id
 | 0=>fun h=>by cases h
 | j+1=>by
  have e:bt ss cs f bs id (j+1)=if cM (atB ss cs f bs id j) (atS ss cs f bs id j) (bt ss cs f bs id j).1 (bt ss cs f bs id j).2=true then (atS ss cs f bs id j,true) else bt ss cs f bs id j:=rfl;rw [e];by_cases hb:cM (atB ss cs f bs id j) (atS ss cs f bs id j) (bt ss cs f bs id j).1 (bt ss cs f bs id j).2=true
  . rw [if_pos hb]
    intro _;have h1:atB ss cs f bs id j=true:=by unfold cM at hb;simp at hb;exact hb.1
    have h2:=h1;unfold atB at h1;unfold atS atD;rw [if_pos h1];unfold iy at h1;simp only [Bool.and_eq_true,decide_eq_true_eq] at h1
    exact h1.2.2.1
  rw [if_neg hb];exact tP j
def bR (ms:List ai) (id:Int):Nat->Sup×Bool
 | 0=>(oV,false)
 | j+1=>match ms[j]? with
  | none=>bR ms id j
  | some d=>if cM (dN d id (j:Int)) (fZ d id).1 (bR ms id j).1 (bR ms id j).2=true then ((fZ d id).1,true) else bR ms id j
theorem new_up {ms:List ai} {id:Int} {j:Nat} {d:ai} {x y:Sup} {fb:Bool} (hd:ms[j]?=some d) (h:bR ms id j=(y,fb)) (hx:dN d id (j:Int)=true->x=(fZ d id).1) (hb:cM (dN d id (j:Int)) x y fb=true):bR ms id (j+1)=(x,true):=by
 have h1:dN d id (j:Int)=true:=by unfold cM at hb;simp at hb;exact hb.1
 have e:bR ms id (j+1)=if cM (dN d id (j:Int)) (fZ d id).1 (bR ms id j).1 (bR ms id j).2=true then ((fZ d id).1,true) else bR ms id j:=by rw [bR,hd]
 rw [e,h,←hx h1];exact if_pos hb
theorem vE {ms:List ai} {id:Int} {j:Nat} {d:ai} {x y:Sup} {fb:Bool} (hd:ms[j]?=some d) (h:bR ms id j=(y,fb)) (hx:dN d id (j:Int)=true->x=(fZ d id).1) (hb:cM (dN d id (j:Int)) x y fb=false):bR ms id (j+1)=(y,fb):=by
 have e:bR ms id (j+1)=if cM (dN d id (j:Int)) (fZ d id).1 (bR ms id j).1 (bR ms id j).2=true then ((fZ d id).1,true) else bR ms id j:=by rw [bR,hd]
 rw [e,h];refine if_neg ?_
 cases h1:dN d id (j:Int)
 . unfold cM;simp
 rw [h1,hx h1] at hb;simp [hb]
theorem sY {ms:List ai} {id:Int}:∀j,(bR ms id j).2=true->(bR ms id j).1.id=id
 | 0=>fun h=>by cases h
 | j+1=>by
  cases hd:ms[j]? with
  | none=>rw [bR,hd];exact sY j
  | some d=>
   have e:bR ms id (j+1)=if cM (dN d id (j:Int)) (fZ d id).1 (bR ms id j).1 (bR ms id j).2=true then ((fZ d id).1,true) else bR ms id j:=by rw [bR,hd]
   rw [e];by_cases hb:cM (dN d id (j:Int)) (fZ d id).1 (bR ms id j).1 (bR ms id j).2=true
   . rw [if_pos hb]
     intro _;have h1:dN d id (j:Int)=true:=by unfold cM at hb;simp at hb;exact hb.1
     unfold dN at h1;simp only [Bool.and_eq_true] at h1
     exact tP 2 h1.1
   rw [if_neg hb];exact sY j
def xj (w w':World) (e:Ending) (d:ai) (id i:Int):Prop:=∃t:Sup,e=.returned (.tuple #[.agg #[.int .i64 t.id,.int .i64 t.gen,.int .i64 t.role,.int .i64 t.n,.int .i64 t.s,.int .i64 t.tail,.int .i64 t.lost,.int .i64 t.xW],.bool (dN d id i)])/\(dN d id i=true->t=(fZ d id).1)/\Below w.heap.size w w'
def NewOut (w w':World) (e:Ending) (ms:List ai) (id:Int):Prop:=e=.returned (.tuple #[.agg #[.int .i64 ((bR ms id ms.length).1).id,.int .i64 ((bR ms id ms.length).1).gen,.int .i64 ((bR ms id ms.length).1).role,.int .i64 ((bR ms id ms.length).1).n,.int .i64 ((bR ms id ms.length).1).s,.int .i64 ((bR ms id ms.length).1).tail,.int .i64 ((bR ms id ms.length).1).lost,.int .i64 ((bR ms id ms.length).1).xW],.bool (bR ms id ms.length).2])/\Below w.heap.size w w'
def nf (w w':World) (e:Ending) (q:aq×List ai) (code:Bool) (ds:List (Int×List Int)):Prop:=
 ∃(bm bd:Option Addr) (cm cd:Nat),e=.returned (.tuple #[.agg (bH q.1 (.slice bm q.2.length cm) (.slice bd ds.length cd)),.bool code])/\fA w' w.heap.size w'.heap.size bm bd q.2.length cm ds.length cd q.2 ds/\Below w.heap.size w w'
theorem rG {w w4:World} {R lo:Nat} {y:aq} {ns:List ai} {ds:List (Int×List Int)} {vm vd:Option Addr} {cvm cvd:Nat} {fm fd:List Nat} {e:Ending} {T:TypeId} {cs:Array Value} {code:Bool} (hb:Below w.heap.size w w4) (_:Box w4 R T cs) (he:e=.returned (.tuple #[.agg (bH y (.slice vm ns.length cvm) (.slice vd ds.length cvd)),.bool code])) (hm:(bI 119 55).Mine w4 [.slice vm ns.length cvm] ns fm) (hd:(aW 93).Mine w4 [.slice vd ds.length cvd] ds fd) (hr:∀b∈fm,b∉fd) (rm:∀b∈fm,lo<=b) (rd:∀b∈fd,lo<=b) (h1:w.heap.size<=R) (h2:R<lo):
 nf w (fa w4 R [(0,.int .i64 y.id),(1,.int .i64 y.n),(2,.int .i64 y.s),(3,.slice vm ns.length cvm),(4,.int .i64 y.lost),(5,.int .i64 y.xW),(6,.int .i64 y.seq),(7,.int .i64 y.tail),(8,.int .i64 y.gen),(9,.slice vd ds.length cvd),(10,.int .i64 y.xY),(11,.bool y.down),(12,.bool y.xX)]) e (y,ns) code ds:=by
 have hbt:=dj R [(0,.int .i64 y.id),(1,.int .i64 y.n),(2,.int .i64 y.s),(3,.slice vm ns.length cvm),(4,.int .i64 y.lost),(5,.int .i64 y.xW),(6,.int .i64 y.seq),(7,.int .i64 y.tail),(8,.int .i64 y.gen),(9,.slice vd ds.length cvd),(10,.int .i64 y.xY),(11,.bool y.down),(12,.bool y.xX)] w4;have hz:=hbt.size;have hlm:=hm.lt;have hld:=hd.lt;refine ⟨vm,vd,cvm,cvd,he,⟨fm,fd,hm.but hbt (fun b hb=>by have:=rm b hb;omega),hd.but hbt (fun b hb=>by have:=rd b hb;omega),hr,fun b hb=>?_,fun b hb=>?_⟩,Below.andBut hb hbt h1⟩
 . have h3:=rm b hb
   have h4:=hlm b hb;omega
 have h3:=rd b hb;have h4:=hld b hb;omega
def arrZ:aq:=⟨0,0,0,0,0,0,0,0,0,false,false⟩
def bT (s:Sup):aq:=⟨s.id,s.n,s.s,s.lost,s.xW,s.tail,s.tail,s.gen,-1,false,false⟩
def jx (ms:List ai) (id:Int) (x:aq):Nat->aq
 | 0=>x
 | j+1=>match ms[j]? with
  | none=>jx ms id x j
  | some d=>if dN d id (j:Int)=true then jx ms id x j else pT (jx ms id x j) (j:Int)
theorem vG {ms:List ai} {id:Int} {x:aq} {j:Nat} {d:ai} (hd:ms[j]?=some d) (h:dN d id (j:Int)=true):jx ms id x (j+1)=jx ms id x j:=by rw [jx,hd];exact if_pos h
theorem vH {ms:List ai} {id:Int} {x:aq} {j:Nat} {d:ai} (hd:ms[j]?=some d) (h:dN d id (j:Int)=false):jx ms id x (j+1)=pT (jx ms id x j) (j:Int):=by rw [jx,hd];exact if_neg (by simp [h])
def mP (ms:List ai) (id:Int):(aq×List ai)×Bool:=
 if (bR ms id ms.length).2=true/\(ms.length:Int)=(bR ms id ms.length).1.n/\bf (jx ms id (bT (bR ms id ms.length).1) ms.length) ms []=true then ((jx ms id (bT (bR ms id ms.length).1) ms.length,ms),true) else ((arrZ,[]),false)
theorem xk {ms:List ai} {id:Int} {y:Sup} (h:bR ms id ms.length=(y,true)) (hn:(ms.length:Int)=y.n) (ha:bf (jx ms id (bT y) ms.length) ms []=true):mP ms id=((jx ms id (bT y) ms.length,ms),true):=by
 unfold mP;rw [h];exact if_pos ⟨rfl,hn,ha⟩
theorem tT {ms:List ai} {id:Int} {y:Sup} {fb:Bool} (h:bR ms id ms.length=(y,fb)) (hn:¬(fb=true/\(ms.length:Int)=y.n)):mP ms id=((arrZ,[]),false):=by
 unfold mP;rw [h];exact if_neg (fun h=>hn ⟨h.1,h.2.1⟩)
theorem xl {ms:List ai} {id:Int} {y:Sup} {fb:Bool} (h:bR ms id ms.length=(y,fb)) (ha:bf (jx ms id (bT y) ms.length) ms []=false):mP ms id=((arrZ,[]),false):=by
 unfold mP;rw [h];refine if_neg (fun h=>?_)
 have:=h.2.2;rw [ha] at this;cases this
theorem jG (w:World) (E:TypeId) (a0 a1 a3:Option Addr) (n0 c0 n1 c1 n3 c3:Nat) (ss:List (List Int)) (cs:List (Int×List Int)) (f:Bool) (bs:List Int) (id i:Int) (h0:aU.Rd w [.slice a0 n0 c0] ss) (h1:(aW E).Rd w [.slice a1 n1 c1] cs) (h3:aD.Rd w [.slice a3 n3 c3] bs) (hw:aM (ss,cs,f,bs)<=2097152):
 Calls Tryz.prog 48 #[.agg #[.slice a0 n0 c0,.slice a1 n1 c1,.bool f,.slice a3 n3 c3],.int .i64 id,.int .i64 i] w fun e w'=>xj w w' e (ss,cs,f,bs) id i:=by
 have hA:=(af w (.cells #[.slice a0 n0 c0,.slice a1 n1 c1,.bool f,.slice a3 n3 c3] 55)).alloc (by simp) (.cells #[.int .i64 0,.int .i64 0,.int .i64 0,.int .i64 0,.int .i64 0,.int .i64 0,.int .i64 0,.int .i64 0] 71);have M0:=(Box.new w 55 #[.slice a0 n0 c0,.slice a1 n1 c1,.bool f,.slice a3 n3 c3]).alloc (.cells #[.int .i64 0,.int .i64 0,.int .i64 0,.int .i64 0,.int .i64 0,.int .i64 0,.int .i64 0,.int .i64 0] 71);have R0:=Box.new (w.alloc (.cells #[.slice a0 n0 c0,.slice a1 n1 c1,.bool f,.slice a3 n3 c3] 55)) 71 #[.int .i64 0,.int .i64 0,.int .i64 0,.int .i64 0,.int .i64 0,.int .i64 0,.int .i64 0,.int .i64 0];rw [World.size_alloc] at R0;have zR:=R0.lt;obtain ⟨q0,q1,q2,q3⟩:=M0.cells4;go_enter Tryz.func48,Tryz.ntmps48
 go_wp2_with fail
 generalize (w.alloc (.cells #[.slice a0 n0 c0,.slice a1 n1 c1,.bool f,.slice a3 n3 c3] 55)).alloc (.cells #[.int .i64 0,.int .i64 0,.int .i64 0,.int .i64 0,.int .i64 0,.int .i64 0,.int .i64 0,.int .i64 0] 71)=W at hA M0 R0 zR q0 q1 q2 q3 ⊢;refine (ke _ E _ _ _ _ _ _ _ _ _ ss cs f bs id (h0.below hA) (h1.below hA) (h3.below hA) hw).mono ?_
 rintro e w1 ⟨rfl,b1⟩;have HB:=aa (show fZ (ss,cs,f,bs) id=bt ss cs f bs id 2 from rfl);generalize bt ss cs f bs id 2=yf at HB ⊢;obtain ⟨y,fb⟩:=yf;dsimp only
 have R1:=R0.below b1 zR;have B1:=Below.andThen hA b1;have z1:=B1.size;have z2:=R1.lt;clear q0 q1 q2 q3 M0 R0 hA b1;have X3:=Box.new w1 71 #[.int .i64 y.id,.int .i64 y.gen,.int .i64 y.role,.int .i64 y.n,.int .i64 y.s,.int .i64 y.tail,.int .i64 y.lost,.int .i64 y.xW];have R3:=R1.alloc (.cells #[.int .i64 y.id,.int .i64 y.gen,.int .i64 y.role,.int .i64 y.n,.int .i64 y.s,.int .i64 y.tail,.int .i64 y.lost,.int .i64 y.xW] 71);have B3:=aa (B1.alloc z1 (.cells #[.int .i64 y.id,.int .i64 y.gen,.int .i64 y.role,.int .i64 y.n,.int .i64 y.s,.int .i64 y.tail,.int .i64 y.lost,.int .i64 y.xW] 71));obtain ⟨x0,x1,x2,x3,x4,x5,x6,x7⟩:=X3.cells8;obtain ⟨r0,r1,r2,r3,r4,r5,r6,r7⟩:=R3.cells8;have fz:=R3.frozen;have hne:¬w.heap.size+1=w1.heap.size:=by omega
 have hne2:¬w1.heap.size=w.heap.size+1:=by omega
 have HV:=aa (sX (i:=i) HB.out);have HZ:=aa (Below.andBut B3.out (ec (w1.alloc (.cells #[.int .i64 y.id,.int .i64 y.gen,.int .i64 y.role,.int .i64 y.n,.int .i64 y.s,.int .i64 y.tail,.int .i64 y.lost,.int .i64 y.xW] 71)) (w.heap.size+1) (.int .i64 0) (.int .i64 0) (.int .i64 0) (.int .i64 0) (.int .i64 0) (.int .i64 0) (.int .i64 0) (.int .i64 0)) (by omega));have HY:=aa (Below.andBut B3.out (ec (w1.alloc (.cells #[.int .i64 y.id,.int .i64 y.gen,.int .i64 y.role,.int .i64 y.n,.int .i64 y.s,.int .i64 y.tail,.int .i64 y.lost,.int .i64 y.xW] 71)) (w.heap.size+1) (.int .i64 y.id) (.int .i64 y.gen) (.int .i64 y.role) (.int .i64 y.n) (.int .i64 y.s) (.int .i64 y.tail) (.int .i64 y.lost) (.int .i64 y.xW)) (by omega));unfold lA at HZ HY;clear X3 R3 B3 R1 B1;go_upto_region 2 with fail
 generalize w1.alloc (.cells #[.int .i64 y.id,.int .i64 y.gen,.int .i64 y.role,.int .i64 y.n,.int .i64 y.s,.int .i64 y.tail,.int .i64 y.lost,.int .i64 y.xW] 71)=w2 at HZ HY x0 x1 x2 x3 x4 x5 x6 x7 r0 r1 r2 r3 r4 r5 r6 r7 fz ⊢;by_cases hf:fb=true
 . subst hf
   by_cases hr:y.role=i
   . have HT:Hid (dN (ss,cs,f,bs) id i=true):=by unfold Hid;rw [HV.out];simp [hr]
     have hr':¬y.role≠i:=fun h=>h hr;have hd1:(decide (y.role=i))=true:=decide_eq_true hr;clear hr;go_wp2
     refine bodyPost_ret (v:=.tuple #[.agg #[.int .i64 y.id,.int .i64 y.gen,.int .i64 y.role,.int .i64 y.n,.int .i64 y.s,.int .i64 y.tail,.int .i64 y.lost,.int .i64 y.xW],.bool true]) (by simp [results,Tryz.results48,go_sem,r0,r1,r2,r3,r4,r5,r6,r7]) rfl ?_
     exact ⟨y,by rw [HT.out],fun _=>by rw [HB.out],HY.out⟩
   have HT:Hid (dN (ss,cs,f,bs) id i=false):=by unfold Hid;rw [HV.out];simp [hr]
   go_wp2
   refine bodyPost_ret (v:=.tuple #[.agg #[.int .i64 0,.int .i64 0,.int .i64 0,.int .i64 0,.int .i64 0,.int .i64 0,.int .i64 0,.int .i64 0],.bool false]) (by simp [results,Tryz.results48,go_sem,r0,r1,r2,r3,r4,r5,r6,r7]) rfl ?_
   exact ⟨oV,by rw [HT.out];rfl,(fun h=>by rw [HT.out] at h;cases h),HZ.out⟩
 have hf:fb=false:=by simpa using hf
 subst hf;have HT:Hid (dN (ss,cs,f,bs) id i=false):=by unfold Hid;rw [HV.out];rfl
 go_wp2
 refine bodyPost_ret (v:=.tuple #[.agg #[.int .i64 0,.int .i64 0,.int .i64 0,.int .i64 0,.int .i64 0,.int .i64 0,.int .i64 0,.int .i64 0],.bool false]) (by simp [results,Tryz.results48,go_sem,r0,r1,r2,r3,r4,r5,r6,r7]) rfl ?_
 exact ⟨oV,by rw [HT.out];rfl,(fun h=>by rw [HT.out] at h;cases h),HZ.out⟩
end Go.Proofs.YtgjomldcnjjpaaaGreat
