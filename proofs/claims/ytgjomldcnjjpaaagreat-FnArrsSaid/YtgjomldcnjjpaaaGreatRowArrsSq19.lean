/-
 The walk of the program's loseDisk. No condition.
-/
import Derived.Test.YtgjomldcnjjpaaaGreatRowArrsSq14
import Derived.Test.YtgjomldcnjjpaaaGreatRowArrsSq6
import Derived.Test.YtgjomldcnjjpaaaGreatRowArrsSq16
import Derived.Test.YtgjomldcnjjpaaaGreatRowArrsSq15
import Derived.Test.YtgjomldcnjjpaaaGreatRowArrsSq10
import Derived.Test.YtgjomldcnjjpaaaGreatRowArrsSq12

set_option maxRecDepth 100000
set_option maxHeartbeats 8000000
set_option linter.unusedSimpArgs false

namespace Go.Proofs.YtgjomldcnjjpaaaGreat
open Go.RowKit

def gW (ss:List (List Int)) (cs:List (Int×List Int)) (f:Bool) (bs:List Int):List (List Int):=if (bF ss cs bs&&!f)=true then dJ ss cs else ss
def ip (ss:List (List Int)) (cs:List (Int×List Int)) (f:Bool) (bs:List Int):List (Int×List Int):=if (bF ss cs bs&&!f)=true then [] else cs
theorem cU {w:World} {E:TypeId} {lo hi:Nat} {v0 v1 v3:Value} {f:Bool} {d:(cu E).D} (h:(cu E).Own w lo hi [v0,v1,.bool f,v3] d):∃a0 l0 c0 a1 l1 c1 a3 l3 c3,v0=.slice a0 l0 c0/\v1=.slice a1 l1 c1/\v3=.slice a3 l3 c3:=by
 obtain ⟨a0,c0,a1,c1,a3,c3,h0,h1,_,h3,_⟩:=qv h.rd;exact ⟨a0,_,c0,a1,_,c1,a3,_,c3,h0,h1,h3⟩
theorem lw (w:World) (E:TypeId) (a0 a1 a3:Option Addr) (n0 c0 n1 c1 n3 c3:Nat) (ss:List (List Int)) (cs:List (Int×List Int)) (f:Bool) (bs:List Int) (h0:aU.Rd w [.slice a0 n0 c0] ss) (h1:(aW E).Rd w [.slice a1 n1 c1] cs) (h3:aD.Rd w [.slice a3 n3 c3] bs) (hw:aM (ss,cs,f,bs)<=2097152):
 Calls Tryz.prog 61 #[.agg #[.slice a0 n0 c0,.slice a1 n1 c1,.bool f,.slice a3 n3 c3]] w fun e w'=>∃v0 v1 v3,e=.returned (.agg #[v0,v1,.bool f,v3])/\(cu 119).Own w' w.heap.size w'.heap.size [v0,v1,.bool f,v3] (gW ss cs f bs,ip ss cs f bs,f,bs)/\Below w.heap.size w w':=by
 obtain ⟨hl0,_,hm0⟩:=ag h0;obtain ⟨hl1,_,hm1⟩:=ag h1;obtain ⟨hl3,_,hm3⟩:=ag h3;have hwc:aX cs<=2097152:=by unfold aM at hw;simp only at hw;omega
 by_cases hM:bF ss cs bs=true
 . have hn20:n0<=20:=by have:=iZ hM;omega
   have hks:=jI hM;by_cases hf:f=true
   . subst hf
     have e1:gW ss cs true bs=ss:=by unfold gW;simp
     have e2:ip ss cs true bs=cs:=by unfold ip;simp
     rw [e1,e2];clear e1 e2;have hA:Below w.heap.size w ((w.alloc (.cells #[.slice a0 n0 c0,.slice a1 n1 c1,.bool true,.slice a3 n3 c3] 55)).alloc (.cells #[.slice none 0 0,.slice none 0 0,.bool false,.slice none 0 0] 55)):=((Below.refl _ _).alloc (Nat.le_refl _) _).alloc (by simp) _;have xm:Box ((w.alloc (.cells #[.slice a0 n0 c0,.slice a1 n1 c1,.bool true,.slice a3 n3 c3] 55)).alloc (.cells #[.slice none 0 0,.slice none 0 0,.bool false,.slice none 0 0] 55)) w.heap.size 55 #[.slice a0 n0 c0,.slice a1 n1 c1,.bool true,.slice a3 n3 c3]:=(Box.new w _ _).alloc _;have xr:Box ((w.alloc (.cells #[.slice a0 n0 c0,.slice a1 n1 c1,.bool true,.slice a3 n3 c3] 55)).alloc (.cells #[.slice none 0 0,.slice none 0 0,.bool false,.slice none 0 0] 55)) (w.heap.size+1) 55 #[.slice none 0 0,.slice none 0 0,.bool false,.slice none 0 0]:=by
      have:=Box.new (w.alloc (.cells #[.slice a0 n0 c0,.slice a1 n1 c1,.bool true,.slice a3 n3 c3] 55)) 55 #[.slice none 0 0,.slice none 0 0,.bool false,.slice none 0 0];rw [show (w.alloc (.cells #[.slice a0 n0 c0,.slice a1 n1 c1,.bool true,.slice a3 n3 c3] 55)).heap.size=w.heap.size+1 by simp] at this;exact this
     go_enter Tryz.func61,Tryz.ntmps61
     go_wp2_with fail
     generalize hW:(w.alloc (.cells #[.slice a0 n0 c0,.slice a1 n1 c1,.bool true,.slice a3 n3 c3] 55)).alloc (.cells #[.slice none 0 0,.slice none 0 0,.bool false,.slice none 0 0] 55)=W at hA xm xr ⊢;clear hW;have zr:=xr.lt;obtain ⟨q0,q1,q2,q3⟩:=xm.cells4;have XM:=aa xm;have XR:=aa xr;clear xm xr;refine (bG _ E _ _ _ _ _ _ _ _ _ ss cs true bs (h0.below hA) (h1.below hA) (h3.below hA) hw).mono ?_
     rintro e w1 ⟨rfl,b1⟩;have z1:=b1.size;have XM1:=aa (XM.out.below b1 (by omega));have XR1:=aa (XR.out.below b1 (by omega));have B1:=aa (hA.trans (b1.mono (by omega)));clear q0 q1 q2 q3 XM XR b1 hA;obtain ⟨q0,q1,q2,q3⟩:=XM1.out.cells4;go_wp2_with fail
     refine (eP _ E _ _ _ _ _ _ _ _ _ ss cs true bs (h0.below B1.out) (h1.below B1.out) (h3.below B1.out) hw).mono ?_
     intro e w2 hc;obtain ⟨b0,b1,b3,e0,e1,e3,m1,m2,rfl,o3,o0,o1,r1,r2,r3,bb⟩:=de hl0 hl1 hl3 hc;clear hc;have z2:=bb.size;clear q0 q1 q2 q3;obtain ⟨p0,p1,p2,p3⟩:=(XR1.out.below bb (by omega)).cells4;have fz:=(XR1.out.below bb (by omega)).frozen;have KB:=B1.out.trans (bb.mono (by omega));have hbt:But (w.heap.size+1) (w.heap.size+2) w2 ((((w2.setCell ⟨w.heap.size+1,0,none⟩ (.slice b0 n0 e0)).setCell ⟨w.heap.size+1,1,none⟩ (.slice b1 n1 e1)).setCell ⟨w.heap.size+1,2,none⟩ (.bool true)).setCell ⟨w.heap.size+1,3,none⟩ (.slice b3 n3 e3)):=
      (((But.setCell (by omega) (by omega) _).trans (But.setCell (by omega) (by omega) _)).trans (But.setCell (by omega) (by omega) _)).trans (But.setCell (by omega) (by omega) _)
     have z9:=hbt.size;have FIN:Hid ((cu 119).Own ((((w2.setCell ⟨w.heap.size+1,0,none⟩ (.slice b0 n0 e0)).setCell ⟨w.heap.size+1,1,none⟩ (.slice b1 n1 e1)).setCell ⟨w.heap.size+1,2,none⟩ (.bool true)).setCell ⟨w.heap.size+1,3,none⟩ (.slice b3 n3 e3)) w.heap.size ((((w2.setCell ⟨w.heap.size+1,0,none⟩ (.slice b0 n0 e0)).setCell ⟨w.heap.size+1,1,none⟩ (.slice b1 n1 e1)).setCell ⟨w.heap.size+1,2,none⟩ (.bool true)).setCell ⟨w.heap.size+1,3,none⟩ (.slice b3 n3 e3)).heap.size [.slice b0 n0 e0,.slice b1 n1 e1,.bool true,.slice b3 n3 e3] (ss,cs,true,bs)):=cH (o0.but hbt (by omega)) (o1.but hbt (by omega)) (o3.but hbt (by omega)) (by omega) (by omega) (by omega) (by omega) (by omega) (by omega);have FB:=aa (Below.andBut KB hbt (by omega));clear hbt KB bb o0 o1 o3;go_wp2
     refine bodyPost_ret (v:=.agg #[.slice b0 n0 e0,.slice b1 n1 e1,.bool true,.slice b3 n3 e3]) (by simp [results,Tryz.results61,go_sem,p0,p1,p2,p3]) rfl ?_
     exact ⟨_,_,_,rfl,FIN.out,FB.out⟩
   have hf:f=false:=by simpa using hf
   subst hf;have e1:gW ss cs false bs=dJ ss cs:=by unfold gW;simp [hM]
   have e2:ip ss cs false bs=[]:=by unfold ip;simp [hM]
   rw [e1,e2];clear e1 e2;have hA:Below w.heap.size w ((w.alloc (.cells #[.slice a0 n0 c0,.slice a1 n1 c1,.bool false,.slice a3 n3 c3] 55)).alloc (.cells #[.slice none 0 0,.slice none 0 0,.bool false,.slice none 0 0] 55)):=((Below.refl _ _).alloc (Nat.le_refl _) _).alloc (by simp) _;have xm:Box ((w.alloc (.cells #[.slice a0 n0 c0,.slice a1 n1 c1,.bool false,.slice a3 n3 c3] 55)).alloc (.cells #[.slice none 0 0,.slice none 0 0,.bool false,.slice none 0 0] 55)) w.heap.size 55 #[.slice a0 n0 c0,.slice a1 n1 c1,.bool false,.slice a3 n3 c3]:=(Box.new w _ _).alloc _;have xr:Box ((w.alloc (.cells #[.slice a0 n0 c0,.slice a1 n1 c1,.bool false,.slice a3 n3 c3] 55)).alloc (.cells #[.slice none 0 0,.slice none 0 0,.bool false,.slice none 0 0] 55)) (w.heap.size+1) 55 #[.slice none 0 0,.slice none 0 0,.bool false,.slice none 0 0]:=by
    have:=Box.new (w.alloc (.cells #[.slice a0 n0 c0,.slice a1 n1 c1,.bool false,.slice a3 n3 c3] 55)) 55 #[.slice none 0 0,.slice none 0 0,.bool false,.slice none 0 0];rw [show (w.alloc (.cells #[.slice a0 n0 c0,.slice a1 n1 c1,.bool false,.slice a3 n3 c3] 55)).heap.size=w.heap.size+1 by simp] at this;exact this
   go_enter Tryz.func61,Tryz.ntmps61
   go_wp2_with fail
   generalize hW:(w.alloc (.cells #[.slice a0 n0 c0,.slice a1 n1 c1,.bool false,.slice a3 n3 c3] 55)).alloc (.cells #[.slice none 0 0,.slice none 0 0,.bool false,.slice none 0 0] 55)=W at hA xm xr ⊢;clear hW;have zr:=xr.lt;obtain ⟨q0,q1,q2,q3⟩:=xm.cells4;have XM:=aa xm;have XR:=aa xr;clear xm xr;refine (bG _ E _ _ _ _ _ _ _ _ _ ss cs false bs (h0.below hA) (h1.below hA) (h3.below hA) hw).mono ?_
   rintro e w1 ⟨rfl,b1⟩;have z1:=b1.size;have XM1:=aa (XM.out.below b1 (by omega));have XR1:=aa (XR.out.below b1 (by omega));have B1:=aa (hA.trans (b1.mono (by omega)));clear q0 q1 q2 q3 XM XR b1 hA;obtain ⟨q0,q1,q2,q3⟩:=XM1.out.cells4;go_wp2_with fail
   refine (sR _ E E _ _ _ _ _ _ _ _ _ _ _ _ ss cs false bs (h0.below B1.out) (h1.below B1.out) (h3.below B1.out) hw cs (h1.below B1.out) hwc hks hn20).mono ?_
   rintro e w2 ⟨v0,v1,v3,rfl,o2,bb⟩;obtain ⟨d0,l0,e0,d1,l1,e1,d3,l3,e3,hv0,hv1,hv3⟩:=cU o2;subst hv0 hv1 hv3;have z2:=bb.size;clear q0 q1 q2 q3;obtain ⟨p0,p1,p2,p3⟩:=(XR1.out.below bb (by omega)).cells4;have fz:=(XR1.out.below bb (by omega)).frozen;have KB:=B1.out.trans (bb.mono (by omega));have hbt:But (w.heap.size+1) (w.heap.size+2) w2 ((((w2.setCell ⟨w.heap.size+1,0,none⟩ (.slice d0 l0 e0)).setCell ⟨w.heap.size+1,1,none⟩ (.slice d1 l1 e1)).setCell ⟨w.heap.size+1,2,none⟩ (.bool false)).setCell ⟨w.heap.size+1,3,none⟩ (.slice d3 l3 e3)):=
    (((But.setCell (by omega) (by omega) _).trans (But.setCell (by omega) (by omega) _)).trans (But.setCell (by omega) (by omega) _)).trans (But.setCell (by omega) (by omega) _)
   have z9:=hbt.size;have FIN:Hid ((cu 119).Own ((((w2.setCell ⟨w.heap.size+1,0,none⟩ (.slice d0 l0 e0)).setCell ⟨w.heap.size+1,1,none⟩ (.slice d1 l1 e1)).setCell ⟨w.heap.size+1,2,none⟩ (.bool false)).setCell ⟨w.heap.size+1,3,none⟩ (.slice d3 l3 e3)) w.heap.size ((((w2.setCell ⟨w.heap.size+1,0,none⟩ (.slice d0 l0 e0)).setCell ⟨w.heap.size+1,1,none⟩ (.slice d1 l1 e1)).setCell ⟨w.heap.size+1,2,none⟩ (.bool false)).setCell ⟨w.heap.size+1,3,none⟩ (.slice d3 l3 e3)).heap.size [.slice d0 l0 e0,.slice d1 l1 e1,.bool false,.slice d3 l3 e3] (dJ ss cs,[],false,bs)):=(o2.but hbt (.inr (by omega))).widen (by omega) z9;have FB:=aa (Below.andBut KB hbt (by omega));clear hbt KB bb o2;go_wp2
   refine bodyPost_ret (v:=.agg #[.slice d0 l0 e0,.slice d1 l1 e1,.bool false,.slice d3 l3 e3]) (by simp [results,Tryz.results61,go_sem,p0,p1,p2,p3]) rfl ?_
   exact ⟨_,_,_,rfl,FIN.out,FB.out⟩
 have hM:bF ss cs bs=false:=by simpa using hM
 have e1:gW ss cs f bs=ss:=by unfold gW;simp [hM]
 have e2:ip ss cs f bs=cs:=by unfold ip;simp [hM]
 rw [e1,e2];clear e1 e2;have hA:Below w.heap.size w ((w.alloc (.cells #[.slice a0 n0 c0,.slice a1 n1 c1,.bool f,.slice a3 n3 c3] 55)).alloc (.cells #[.slice none 0 0,.slice none 0 0,.bool false,.slice none 0 0] 55)):=((Below.refl _ _).alloc (Nat.le_refl _) _).alloc (by simp) _;have xm:Box ((w.alloc (.cells #[.slice a0 n0 c0,.slice a1 n1 c1,.bool f,.slice a3 n3 c3] 55)).alloc (.cells #[.slice none 0 0,.slice none 0 0,.bool false,.slice none 0 0] 55)) w.heap.size 55 #[.slice a0 n0 c0,.slice a1 n1 c1,.bool f,.slice a3 n3 c3]:=(Box.new w _ _).alloc _;have xr:Box ((w.alloc (.cells #[.slice a0 n0 c0,.slice a1 n1 c1,.bool f,.slice a3 n3 c3] 55)).alloc (.cells #[.slice none 0 0,.slice none 0 0,.bool false,.slice none 0 0] 55)) (w.heap.size+1) 55 #[.slice none 0 0,.slice none 0 0,.bool false,.slice none 0 0]:=by
  have:=Box.new (w.alloc (.cells #[.slice a0 n0 c0,.slice a1 n1 c1,.bool f,.slice a3 n3 c3] 55)) 55 #[.slice none 0 0,.slice none 0 0,.bool false,.slice none 0 0];rw [show (w.alloc (.cells #[.slice a0 n0 c0,.slice a1 n1 c1,.bool f,.slice a3 n3 c3] 55)).heap.size=w.heap.size+1 by simp] at this;exact this
 go_enter Tryz.func61,Tryz.ntmps61
 go_wp2_with fail
 generalize hW:(w.alloc (.cells #[.slice a0 n0 c0,.slice a1 n1 c1,.bool f,.slice a3 n3 c3] 55)).alloc (.cells #[.slice none 0 0,.slice none 0 0,.bool false,.slice none 0 0] 55)=W at hA xm xr ⊢;clear hW;have zr:=xr.lt;obtain ⟨q0,q1,q2,q3⟩:=xm.cells4;have XM:=aa xm;have XR:=aa xr;clear xm xr;refine (bG _ E _ _ _ _ _ _ _ _ _ ss cs f bs (h0.below hA) (h1.below hA) (h3.below hA) hw).mono ?_
 rintro e w1 ⟨rfl,b1⟩;have z1:=b1.size;have XM1:=aa (XM.out.below b1 (by omega));have XR1:=aa (XR.out.below b1 (by omega));have B1:=aa (hA.trans (b1.mono (by omega)));clear q0 q1 q2 q3 XM XR b1 hA;obtain ⟨q0,q1,q2,q3⟩:=XM1.out.cells4;go_wp2_with fail
 refine (eP _ E _ _ _ _ _ _ _ _ _ ss cs f bs (h0.below B1.out) (h1.below B1.out) (h3.below B1.out) hw).mono ?_
 intro e w2 hc;obtain ⟨b0,b1,b3,e0,e1,e3,m1,m2,rfl,o3,o0,o1,r1,r2,r3,bb⟩:=de hl0 hl1 hl3 hc;clear hc;have z2:=bb.size;clear q0 q1 q2 q3;obtain ⟨p0,p1,p2,p3⟩:=(XR1.out.below bb (by omega)).cells4;have fz:=(XR1.out.below bb (by omega)).frozen;have KB:=B1.out.trans (bb.mono (by omega));have hbt:But (w.heap.size+1) (w.heap.size+2) w2 ((((w2.setCell ⟨w.heap.size+1,0,none⟩ (.slice b0 n0 e0)).setCell ⟨w.heap.size+1,1,none⟩ (.slice b1 n1 e1)).setCell ⟨w.heap.size+1,2,none⟩ (.bool f)).setCell ⟨w.heap.size+1,3,none⟩ (.slice b3 n3 e3)):=
  (((But.setCell (by omega) (by omega) _).trans (But.setCell (by omega) (by omega) _)).trans (But.setCell (by omega) (by omega) _)).trans (But.setCell (by omega) (by omega) _)
 have z9:=hbt.size;have FIN:Hid ((cu 119).Own ((((w2.setCell ⟨w.heap.size+1,0,none⟩ (.slice b0 n0 e0)).setCell ⟨w.heap.size+1,1,none⟩ (.slice b1 n1 e1)).setCell ⟨w.heap.size+1,2,none⟩ (.bool f)).setCell ⟨w.heap.size+1,3,none⟩ (.slice b3 n3 e3)) w.heap.size ((((w2.setCell ⟨w.heap.size+1,0,none⟩ (.slice b0 n0 e0)).setCell ⟨w.heap.size+1,1,none⟩ (.slice b1 n1 e1)).setCell ⟨w.heap.size+1,2,none⟩ (.bool f)).setCell ⟨w.heap.size+1,3,none⟩ (.slice b3 n3 e3)).heap.size [.slice b0 n0 e0,.slice b1 n1 e1,.bool f,.slice b3 n3 e3] (ss,cs,f,bs)):=cH (o0.but hbt (by omega)) (o1.but hbt (by omega)) (o3.but hbt (by omega)) (by omega) (by omega) (by omega) (by omega) (by omega) (by omega);have FB:=aa (Below.andBut KB hbt (by omega));clear hbt KB bb o0 o1 o3;go_wp2
 refine bodyPost_ret (v:=.agg #[.slice b0 n0 e0,.slice b1 n1 e1,.bool f,.slice b3 n3 e3]) (by simp [results,Tryz.results61,go_sem,p0,p1,p2,p3]) rfl ?_
 exact ⟨_,_,_,rfl,FIN.out,FB.out⟩
abbrev aH:=Int×List Int
def fP (e:aH) (q:List aH×Bool) (d:aH):List aH×Bool:=
 let q1:=if q.2=false/\e.1<=d.1 then (q.1++[e],true) else q
 if d.1=e.1 then q1 else (q1.1++[d],q1.2)
def gj (ds:List aH) (e:aH) (j:Nat):List aH×Bool:=(ds.take j).foldl (fP e) ([],false)
def mT (ds:List aH) (e:aH):List aH:=if (gj ds e ds.length).2=true then (gj ds e ds.length).1 else (gj ds e ds.length).1++[e]
theorem pX {ds:List aH} {e d:aH} {j:Nat} (h:ds[j]?=some d):gj ds e (j+1)=fP e (gj ds e j) d:=by
 unfold gj;rw [List.take_add_one,h,List.foldl_append];rfl
theorem uE (e:aH) (q:List aH×Bool) (d:aH):(fP e q d).1.length<=q.1.length+2:=by
 unfold fP;dsimp only
 split<;>split<;>simp<;>omega
theorem rL (ds:List aH) (e:aH):∀j,j<=ds.length->(gj ds e j).1.length<=2*j
 | 0,_=>by simp [gj]
 | j+1,h=>by
  have ih:=rL ds e j (by omega);have h1:=uE e (gj ds e j) (ds[j]'(by omega));rw [pX (List.getElem?_eq_getElem (by omega))];omega
theorem lG {w:World} {E:TypeId} {bd:Option Addr} {n cap:Nat} {ds:List aH} {fd:List Nat} (h:(aW E).Mine w [.slice bd n cap] ds fd):
 ∃fps:List (List Nat),fps.length=ds.length/\fps.flatten.Nodup/\(∀b∈fps.flatten,b∈fd)/\∀(i:Nat) (d:aH),ds[i]?=some d->∃(f:List Nat) (g:Nat) (a:Option Addr) (c:Nat),fps[i]?=some f/\bd=some ⟨g,0,none⟩/\g<w.heap.size/\g∈fd/\g∉f/\w.cell? ⟨g,i*2,none⟩=some (.int .i64 d.1)/\w.cell? ⟨g,i*2+1,none⟩=some (.slice a d.2.length c)/\tWr.Mine w [.int .i64 d.1,.slice a d.2.length c] d f:=by
 obtain ⟨h,hn⟩:=h;rcases h with ⟨_,h2,_⟩|⟨b,cap',cur,fps,h1,h2,h3,h4,h5,h6,h7,h8⟩
 . subst h2
   exact ⟨[],rfl,by simp,by simp,fun i d hd=>by simp at hd⟩
 simp only [List.cons.injEq,Value.slice.injEq,and_true] at h1
 rw [h6,List.nodup_cons] at hn;refine ⟨fps,h7,hn.2,fun c hc=>by rw [h6];exact List.mem_cons_of_mem _ hc,fun i d hd=>?_⟩
 obtain ⟨f,hf,ho⟩:=h8 i d hd;have hfn:=(eU hn.2 hf).1;have hgf:b∉f:=fun hm=>hn.1 (List.mem_flatten.2 ⟨f,List.mem_of_getElem? hf,hm⟩);have hil:=(List.getElem?_eq_some_iff.1 hd).1;have h5':cur.size=cap'*2:=h5;have hlen:((cur.toList.drop (i*2)).take 2).length=2:=by
  rw [List.length_take,List.length_drop,Array.length_toList,h5'];omega
 have ho':tWr.ow w ((cur.toList.drop (i*2)).take 2) d f:=ho;obtain ⟨v0,v1,hv⟩:∃v0 v1,(cur.toList.drop (i*2)).take 2=[v0,v1]:=by
  match hq:(cur.toList.drop (i*2)).take 2,hlen with
  | [v0,v1],_=>exact ⟨v0,v1,rfl⟩
 rw [hv] at ho';have hM:tWr.Mine w [v0,v1] d f:=⟨ho',hfn⟩;obtain ⟨hv0,hr⟩:=eL hM.rd;obtain ⟨a,c,hv1⟩:=aC hr;have c0:cur.toList[i*2]?=some v0:=by
  have:((cur.toList.drop (i*2)).take 2)[0]?=some v0:=by rw [hv];rfl
  rw [List.getElem?_take,if_pos (by omega),List.getElem?_drop] at this;simpa using this
 have c1:cur.toList[i*2+1]?=some v1:=by
  have:((cur.toList.drop (i*2)).take 2)[1]?=some v1:=by rw [hv];rfl
  rw [List.getElem?_take,if_pos (by omega),List.getElem?_drop] at this;simpa using this
 subst hv0 hv1;refine ⟨f,b,a,c,hf,h1.1,(Array.getElem?_eq_some_iff.1 h4).1,by rw [h6];exact List.mem_cons_self,hgf,?_,?_,hM⟩
 . rw [cell_of_row w b _ cur E (0,0) h4];simpa using c0
 rw [cell_of_row w b _ cur E (0,0) h4];simpa using c1
def rM (ds:List (Int×List Int)):Prop:=(∀(i j:Nat) (e e':Int×List Int),i<j->ds[i]?=some e->ds[j]?=some e'->e.1<e'.1)/\∀(i:Nat) (e:Int×List Int),ds[i]?=some e->0<=e.1/\e.1<=100
def pe (ds:List (Int×List Int)) (t:Int) (k:Nat) (b:Bool):Prop:=
 k<=ds.length/\(∀(i:Nat) (e:Int×List Int),i<k->ds[i]?=some e->e.1<t)/\(∀(i:Nat) (e:Int×List Int),k<=i->ds[i]?=some e->t<=e.1)/\((b=true/\∃e,ds[k]?=some e/\e.1=t)∨(b=false/\∀e,ds[k]?=some e->¬e.1=t))
theorem pe.hit {ds:List (Int×List Int)} {t:Int} {k:Nat} (h:pe ds t k true):at8 ds t=(k:Int)/\∃e,ds[k]?=some e/\e.1=t:=by
 obtain ⟨h1,h2,h3,h4⟩:=h;rcases h4 with ⟨_,e,he,ht⟩|⟨h4,_⟩
 . exact ⟨qA he ht (fun i e' hi he' h'=>by have:=h2 i e' hi he';omega),e,he,ht⟩
 cases h4
theorem pe.miss {ds:List (Int×List Int)} {t:Int} {k:Nat} (ha:rM ds) (h:pe ds t k false):at8 ds t=-1:=by
 obtain ⟨h1,h2,h3,h4⟩:=h;rcases h4 with ⟨h4,_⟩|⟨_,h4⟩
 . cases h4
 refine rH (fun i e hi he h'=>?_)
 rcases Nat.lt_trichotomy i k with h|h|h
 . have:=h2 i e h he;omega
 . subst h;exact h4 e he h'
 have hk:k<ds.length:=by omega
 have hkk:=List.getElem?_eq_getElem hk;have h5:=h3 k _ (Nat.le_refl _) hkk;have h6:=ha.1 k i _ e h hkk he;omega
def vL (w:World) (a:Option Addr) (ds:List (Int×List Int)) (Q:Nat->List Int->Option Addr->Nat->Prop):Prop:=
 ∀(i:Nat) (d:Int×List Int),ds[i]?=some d->∃(b off:Nat) (a':Option Addr) (c':Nat),a=some ⟨b,off,none⟩/\b<w.heap.size/\w.cell? ⟨b,off+i*2,none⟩=some (.int .i64 d.1)/\w.cell? ⟨b,off+i*2+1,none⟩=some (.slice a' d.2.length c')/\Q i d.2 a' c'
theorem xy {w:World} {G:TypeId} {a:Option Addr} {n cap:Nat} {ds:List (Int×List Int)} (h:(aW G).Rd w [.slice a n cap] ds):vL w a ds fun _ ys a' c'=>aD.Rd w [.slice a' ys.length c'] ys:=fun i d hd=>by
 have hl:=(ag h).1;have hi:=(List.getElem?_eq_some_iff.1 hd).1;rcases cW rfl h with h0|⟨b,off,rfl,hbl,hcs⟩
 . omega
 obtain ⟨u0,u1,hv0,hv1,hrv⟩:=hcs i d hd;obtain ⟨rfl,hr1⟩:=eL hrv;obtain ⟨a1,c1,rfl⟩:=aC hr1;exact ⟨b,off,a1,c1,rfl,hbl,hv0,hv1,hr1⟩
theorem rV (a b:List Nat):du (a++b)=du a+du b:=by
 induction a with
 | nil=>simp [du]
 | cons x a ih=>
  simp only [List.cons_append,du,List.foldr_cons] at *
  omega
theorem kV (a b:List aH):aX (a++b)=aX a+aX b:=by
 unfold aX;rw [List.map_append,rV,List.length_append];omega
theorem tk (l:List aH) (k:Nat):aX (l.take k)+aX (l.drop k)=aX l:=by
 rw [←kV,List.take_append_drop]
theorem rW (l:List aH) (k:Nat):aX (l.drop (k+1))<=aX (l.drop k):=by
 have:=tk (l.drop k) 1;rw [List.drop_drop] at this;omega
theorem qS {w:World} {vs:List Value} {x:Int×List Int} {fp:List Nat} (h:tWr.Mine w vs x fp):∃a cap,vs=[.int .i64 x.1,.slice a x.2.length cap]/\aD.Mine w [.slice a x.2.length cap] x.2 fp:=by
 have hl:vs.length=2:=tWr.rdLen (tWr.owRd h.1);match vs,hl,h with
 | [u0,u1],_,h=>
  obtain ⟨f1,f2,hf,m1,m2,_⟩:=eK (t:=eT) (u:=aD) (vs:=[u0]) (us:=[u1]) rfl h;obtain ⟨e1,e2⟩:=m1.1;subst e2;obtain ⟨a,cap,rfl⟩:=aC m2.rd;refine ⟨a,cap,by simpa using e1,?_⟩
  rw [hf];exact m2
theorem jl.kept {t:Ty} {w w':World} {vs:List Value} {ys:List t.D} {fs:List (List Nat)} {fp:List Nat} (h:jl t w vs ys fs) (ht:aA fp w w') (hd:∀b∈fs.flatten,b∉fp):jl t w' vs ys fs:=by
 have hl:=h.lt;refine ⟨h.1,h.2.1,h.2.2.1,fun i y hy=>?_⟩
 obtain ⟨f,hf,ho⟩:=h.2.2.2 i y hy;have hm:∀b∈f,b∈fs.flatten:=fun b hb=>List.mem_flatten.2 ⟨f,List.mem_of_getElem? hf,hb⟩;exact ⟨f,hf,t.owKept ho (fun b hb=>ht.block b (hl b (hm b hb)) (hd b (hm b hb))) ht.size⟩
theorem wr_one {w:World} {cs:List Value} {ds:List aH} {fps:List (List Nat)} (hn:fps.flatten.Nodup) (hl:cs.length=ds.length*2) (h:∀i y,ds[i]?=some y->∃f,fps[i]?=some f/\tWr.ow w ((cs.drop (i*2)).take 2) y f):∀u∈cs,u.oneCell'=true:=by
 intro u hu;obtain ⟨m,hm⟩:=List.mem_iff_getElem?.1 hu;have hml:=(List.getElem?_eq_some_iff.1 hm).1;have hil:m / 2<ds.length:=by omega
 obtain ⟨f,hf,ho⟩:=h (m / 2) _ (List.getElem?_eq_getElem hil);obtain ⟨a,c,hv,_⟩:=qS ⟨ho,(eU hn hf).1⟩;have h1:((cs.drop (m / 2*2)).take 2)[m % 2]?=some u:=by
  rw [List.getElem?_take,if_pos (by omega),List.getElem?_drop,show m / 2*2+m % 2=m by omega];exact hm
 rw [hv] at h1;have h2:u∈[Value.int .i64 (ds[m / 2]).1,.slice a (ds[m / 2]).2.length c]:=List.mem_of_getElem? h1;simp at h2
 rcases h2 with h2|h2<;>(rw [h2];rfl)
theorem qZ (w:World) (B:Nat) (x:aq) (ms:List ai) (ds:List (Int×List Int)) (fm fd:List Nat) (h:aK w B x ms ds fm fd) (m:Int):
 Calls Tryz.prog 49 #[.pointer (some ⟨B,0,none⟩),.int .i64 m] w fun e w'=>e=.returned (.tuple #[])/\aK w' B (pT x m) ms ds fm fd/\But B (B+1) w w':=by
 obtain ⟨bm,bd,cm,cd,X,hm,hd,hr,r1,r2⟩:=h;have X0:=X;unfold bH at X0;obtain ⟨k0,k1,k2,k3,k4,k5,k6,k7,k8,k9,k10,k11,k12⟩:=X0.cells13;have fz:=X0.frozen;have HB1:=aa (But.setCell (w:=w) (g:=B) (j:=12) (Nat.le_refl B) (Nat.lt_succ_self B) (.bool true));have HB2:=aa ((But.setCell (w:=w) (g:=B) (j:=4) (Nat.le_refl B) (Nat.lt_succ_self B) (.int .i64 m)).trans (But.setCell (j:=5) (Nat.le_refl B) (Nat.lt_succ_self B) (.int .i64 0)));have HA1:Hid (aK (w.setCell ⟨B,12,none⟩ (.bool true)) B {x with xX:=true} ms ds fm fd):=⟨bm,bd,cm,cd,X.set 12 _,hm.setCell r1 _,hd.setCell r2 _,hr,r1,r2⟩;have HA2:Hid (aK ((w.setCell ⟨B,4,none⟩ (.int .i64 m)).setCell ⟨B,5,none⟩ (.int .i64 0)) B {x with lost:=m,xW:=0} ms ds fm fd):=⟨bm,bd,cm,cd,(X.set 4 _).set 5 _,(hm.setCell r1 _).setCell r1 _,(hd.setCell r2 _).setCell r2 _,hr,r1,r2⟩;clear X X0 hm hd;go_enter Tryz.func49,Tryz.ntmps49
 by_cases h1:x.lost=-1
 . have HV:Hid (pT x m={x with lost:=m,xW:=0}):=if_pos (.inl h1)
   rw [h1] at k4;clear h1;go_wp2
   refine bodyPost_end (v:=.tuple #[]) (results_none rfl _ _ _) rfl ?_
   exact ⟨rfl,by rw [HV.out];exact HA2.out,HB2.out⟩
 by_cases h2:x.lost=m
 . have HV:Hid (pT x m={x with lost:=m,xW:=0}):=if_pos (.inr h2)
   rw [h2] at k4 h1;clear h2;go_wp2
   refine bodyPost_end (v:=.tuple #[]) (results_none rfl _ _ _) rfl ?_
   exact ⟨rfl,by rw [HV.out];exact HA2.out,HB2.out⟩
 have HV:Hid (pT x m={x with xX:=true}):=if_neg (by omega);have g1:(x.lost !=-1)=true:=by simp [h1]
 have g2:(x.lost !=m)=true:=by simp [h2]
 go_wp2
 refine bodyPost_ret (v:=.tuple #[]) (results_none rfl _ _ _) rfl ?_
 exact ⟨rfl,by rw [HV.out];exact HA1.out,HB1.out⟩
end Go.Proofs.YtgjomldcnjjpaaaGreat
