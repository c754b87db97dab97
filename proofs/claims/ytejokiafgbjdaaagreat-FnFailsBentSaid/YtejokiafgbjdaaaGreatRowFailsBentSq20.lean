/-
 The walk of the program's loseDisk. No condition.
-/
import Derived.Test.YtejokiafgbjdaaaGreatRowFailsBentSq16
import Derived.Test.YtejokiafgbjdaaaGreatRowFailsBentSq17
import Derived.Test.YtejokiafgbjdaaaGreatRowFailsBentSq13
import Derived.Test.YtejokiafgbjdaaaGreatRowFailsBentSq3
import Derived.Test.YtejokiafgbjdaaaGreatRowFailsBentSq10
import Derived.Test.YtejokiafgbjdaaaGreatRowFailsBentSq5
import Derived.Test.YtejokiafgbjdaaaGreatRowFailsBentSq7

set_option maxRecDepth 100000
set_option maxHeartbeats 8000000
set_option linter.unusedSimpArgs false

namespace Go.Proofs.YtejokiafgbjdaaaGreat
open Go.RowKit

abbrev aE:=Int×List Int
def eS (e:aE) (q:List aE×Bool) (d:aE):List aE×Bool:=
 let q1:=if q.2=false/\e.1<=d.1 then (q.1++[e],true) else q
 if d.1=e.1 then q1 else (q1.1++[d],q1.2)
def fu (ds:List aE) (e:aE) (j:Nat):List aE×Bool:=(ds.take j).foldl (eS e) ([],false)
def kP (ds:List aE) (e:aE):List aE:=if (fu ds e ds.length).2=true then (fu ds e ds.length).1 else (fu ds e ds.length).1++[e]
theorem nh {ds:List aE} {e d:aE} {j:Nat} (h:ds[j]?=some d):fu ds e (j+1)=eS e (fu ds e j) d:=by
 unfold fu;rw [List.take_add_one,h,List.foldl_append];rfl
theorem rN (e:aE) (q:List aE×Bool) (d:aE):(eS e q d).1.length<=q.1.length+2:=by
 unfold eS;dsimp only
 split<;>split<;>simp<;>omega
theorem oY (ds:List aE) (e:aE):∀j,j<=ds.length->(fu ds e j).1.length<=2*j
 | 0,_=>by simp [fu]
 | j+1,h=>by
  have ih:=oY ds e j (by omega);have h1:=rN e (fu ds e j) (ds[j]'(by omega));rw [nh (List.getElem?_eq_getElem (by omega))];omega
theorem jF {w:World} {E:TypeId} {bd:Option Addr} {n cap:Nat} {ds:List aE} {fd:List Nat} (h:(aU E).Mine w [.slice bd n cap] ds fd):
 ∃fps:List (List Nat),fps.length=ds.length/\fps.flatten.Nodup/\(∀b∈fps.flatten,b∈fd)/\∀(i:Nat) (d:aE),ds[i]?=some d->∃(f:List Nat) (g:Nat) (a:Option Addr) (c:Nat),fps[i]?=some f/\bd=some ⟨g,0,none⟩/\g<w.heap.size/\g∈fd/\g∉f/\w.cell? ⟨g,i*2,none⟩=some (.int .i64 d.1)/\w.cell? ⟨g,i*2+1,none⟩=some (.slice a d.2.length c)/\tWr.Mine w [.int .i64 d.1,.slice a d.2.length c] d f:=by
 obtain ⟨h,hn⟩:=h;rcases h with ⟨_,h2,_⟩|⟨b,cap',cur,fps,h1,h2,h3,h4,h5,h6,h7,h8⟩
 . subst h2
   exact ⟨[],rfl,by simp,by simp,fun i d hd=>by simp at hd⟩
 simp only [List.cons.injEq,Value.slice.injEq,and_true] at h1
 rw [h6,List.nodup_cons] at hn;refine ⟨fps,h7,hn.2,fun c hc=>by rw [h6];exact List.mem_cons_of_mem _ hc,fun i d hd=>?_⟩
 obtain ⟨f,hf,ho⟩:=h8 i d hd;have hfn:=(ep hn.2 hf).1;have hgf:b∉f:=fun hm=>hn.1 (List.mem_flatten.2 ⟨f,List.mem_of_getElem? hf,hm⟩);have hil:=(List.getElem?_eq_some_iff.1 hd).1;have h5':cur.size=cap'*2:=h5;have hlen:((cur.toList.drop (i*2)).take 2).length=2:=by
  rw [List.length_take,List.length_drop,Array.length_toList,h5'];omega
 have ho':tWr.ow w ((cur.toList.drop (i*2)).take 2) d f:=ho;obtain ⟨v0,v1,hv⟩:∃v0 v1,(cur.toList.drop (i*2)).take 2=[v0,v1]:=by
  match hq:(cur.toList.drop (i*2)).take 2,hlen with
  | [v0,v1],_=>exact ⟨v0,v1,rfl⟩
 rw [hv] at ho';have hM:tWr.Mine w [v0,v1] d f:=⟨ho',hfn⟩;obtain ⟨hv0,hr⟩:=eB hM.rd;obtain ⟨a,c,hv1⟩:=aw hr;have c0:cur.toList[i*2]?=some v0:=by
  have:((cur.toList.drop (i*2)).take 2)[0]?=some v0:=by rw [hv];rfl
  rw [List.getElem?_take,if_pos (by omega),List.getElem?_drop] at this;simpa using this
 have c1:cur.toList[i*2+1]?=some v1:=by
  have:((cur.toList.drop (i*2)).take 2)[1]?=some v1:=by rw [hv];rfl
  rw [List.getElem?_take,if_pos (by omega),List.getElem?_drop] at this;simpa using this
 subst hv0 hv1;refine ⟨f,b,a,c,hf,h1.1,(Array.getElem?_eq_some_iff.1 h4).1,by rw [h6];exact List.mem_cons_self,hgf,?_,?_,hM⟩
 . rw [cell_of_row w b _ cur E (0,0) h4];simpa using c0
 rw [cell_of_row w b _ cur E (0,0) h4];simpa using c1
theorem oZ (a b:List Nat):dw (a++b)=dw a+dw b:=by
 induction a with
 | nil=>simp [dw]
 | cons x a ih=>
  simp only [List.cons_append,dw,List.foldr_cons] at *
  omega
theorem jl (a b:List aE):aY (a++b)=aY a+aY b:=by
 unfold aY;rw [List.map_append,oZ,List.length_append];omega
theorem qa (l:List aE) (k:Nat):aY (l.take k)+aY (l.drop k)=aY l:=by
 rw [←jl,List.take_append_drop]
theorem pb (l:List aE) (k:Nat):aY (l.drop (k+1))<=aY (l.drop k):=by
 have:=qa (l.drop k) 1;rw [List.drop_drop] at this;omega
def cK (ss:List (List Int)) (cs:List (Int×List Int)) (f:Bool) (bs:List Int) (n:Int) (sw:List Int):Bool:=aW ss cs bs&&(!f&&(inB n 0 ((ss.length:Int)-1)&&(da sw&&decide (cs.length<60))))
def dJ (ss:List (List Int)) (cs:List (Int×List Int)) (f:Bool) (bs:List Int) (n:Int) (sw:List Int):List (Int×List Int):=if cK ss cs f bs n sw=true then cs++[(n,sw)] else cs
def dK (ss:List (List Int)) (cs:List (Int×List Int)) (f:Bool) (bs:List Int) (n:Int) (sw:List Int):List Int:=if cK ss cs f bs n sw=true then cA bs n else bs
theorem eI (w:World) (E:TypeId) (a0 a1 a3 a5:Option Addr) (n0 c0 n1 c1 n3 c3 n5 c5:Nat) (ss:List (List Int)) (cs:List (Int×List Int)) (f:Bool) (bs:List Int) (n:Int) (sw:List Int) (h0:aR.Rd w [.slice a0 n0 c0] ss) (h1:(aU E).Rd w [.slice a1 n1 c1] cs) (h3:aA.Rd w [.slice a3 n3 c3] bs) (h5:aA.Rd w [.slice a5 n5 c5] sw) (hw:aJ (ss,cs,f,bs)<=2097152) (hw5:n5<=2097152):
 Calls Tryz.prog 236 #[.agg #[.slice a0 n0 c0,.slice a1 n1 c1,.bool f,.slice a3 n3 c3],.int .i64 n,.slice a5 n5 c5] w fun e w'=>∃v0 v1 v3,e=.returned (.tuple #[.agg #[v0,v1,.bool f,v3],.bool (cK ss cs f bs n sw)])/\(bC 142).Own w' w.heap.size w'.heap.size [v0,v1,.bool f,v3] (ss,dJ ss cs f bs n sw,f,dK ss cs f bs n sw)/\Below w.heap.size w w':=by
 obtain ⟨hl0,_,hm0⟩:=ae h0;obtain ⟨hl1,_,hm1⟩:=ae h1;obtain ⟨hl3,_,hm3⟩:=ae h3;obtain ⟨hl5,_,hm5⟩:=ae h5;have hA:Below w.heap.size w (((w.alloc (.cells #[.slice a0 n0 c0,.slice a1 n1 c1,.bool f,.slice a3 n3 c3] 78)).alloc (.cells #[.int .i64 n] 3)).alloc (.cells #[.slice none 0 0,.slice none 0 0,.bool false,.slice none 0 0] 78)):=(((Below.refl _ _).alloc (Nat.le_refl _) _).alloc (by simp) _).alloc (by simp;omega) _;have xm:Box (((w.alloc (.cells #[.slice a0 n0 c0,.slice a1 n1 c1,.bool f,.slice a3 n3 c3] 78)).alloc (.cells #[.int .i64 n] 3)).alloc (.cells #[.slice none 0 0,.slice none 0 0,.bool false,.slice none 0 0] 78)) w.heap.size 78 #[.slice a0 n0 c0,.slice a1 n1 c1,.bool f,.slice a3 n3 c3]:=((Box.new w _ _).alloc _).alloc _;have xn:Box (((w.alloc (.cells #[.slice a0 n0 c0,.slice a1 n1 c1,.bool f,.slice a3 n3 c3] 78)).alloc (.cells #[.int .i64 n] 3)).alloc (.cells #[.slice none 0 0,.slice none 0 0,.bool false,.slice none 0 0] 78)) (w.heap.size+1) 3 #[.int .i64 n]:=by
  have:=Box.new (w.alloc (.cells #[.slice a0 n0 c0,.slice a1 n1 c1,.bool f,.slice a3 n3 c3] 78)) 3 #[.int .i64 n];rw [show (w.alloc (.cells #[.slice a0 n0 c0,.slice a1 n1 c1,.bool f,.slice a3 n3 c3] 78)).heap.size=w.heap.size+1 by simp] at this;exact this.alloc _
 have xr:Box (((w.alloc (.cells #[.slice a0 n0 c0,.slice a1 n1 c1,.bool f,.slice a3 n3 c3] 78)).alloc (.cells #[.int .i64 n] 3)).alloc (.cells #[.slice none 0 0,.slice none 0 0,.bool false,.slice none 0 0] 78)) (w.heap.size+2) 78 #[.slice none 0 0,.slice none 0 0,.bool false,.slice none 0 0]:=by
  have:=Box.new ((w.alloc (.cells #[.slice a0 n0 c0,.slice a1 n1 c1,.bool f,.slice a3 n3 c3] 78)).alloc (.cells #[.int .i64 n] 3)) 78 #[.slice none 0 0,.slice none 0 0,.bool false,.slice none 0 0];rw [show ((w.alloc (.cells #[.slice a0 n0 c0,.slice a1 n1 c1,.bool f,.slice a3 n3 c3] 78)).alloc (.cells #[.int .i64 n] 3)).heap.size=w.heap.size+2 by simp] at this;exact this
 go_enter Tryz.func236,Tryz.ntmps236
 go_wp2_with fail
 generalize hW:((w.alloc (.cells #[.slice a0 n0 c0,.slice a1 n1 c1,.bool f,.slice a3 n3 c3] 78)).alloc (.cells #[.int .i64 n] 3)).alloc (.cells #[.slice none 0 0,.slice none 0 0,.bool false,.slice none 0 0] 78)=W at hA xm xn xr ⊢;clear hW;have zr:=xr.lt;have B0:=aa hA;clear hA;have XM0:=aa xm;clear xm;have XN0:=aa xn;clear xn;have XR0:=aa xr;clear xr;refine (cu _ E _ _ _ _ _ _ _ _ _ ss cs f bs (h0.below B0.out) (h1.below B0.out) (h3.below B0.out) hw).mono ?_
 intro e w1 hc;obtain ⟨b0,b1,b3,e0,e1,e3,m1,m2,rfl,o3,o0,o1,r1,r2,r3,hb1⟩:=bD hl0 hl1 hl3 hc;clear hc;have B1:=aa (Below.andThen B0.out hb1);have XM1:=aa (XM0.out.below hb1 (by omega));have XN1:=aa (XN0.out.below hb1 (by omega));have XR1:=aa (XR0.out.below hb1 (by omega));have z1:=hb1.size;clear B0 XM0 XN0 XR0 hb1;have S1:=aa o0;clear o0;have C1:=aa o1;clear o1;have D1:=aa o3;clear o3;have ba:Below w1.heap.size w1 (w1.alloc (.cells #[.slice b0 n0 e0,.slice b1 n1 e1,.bool f,.slice b3 n3 e3] 78)):=(Below.refl _ _).alloc (Nat.le_refl _) _;have yo:=Box.new w1 78 #[.slice b0 n0 e0,.slice b1 n1 e1,.bool f,.slice b3 n3 e3];have zo:=yo.lt;have B2:=aa (Below.andThen B1.out ba);have XM2:=aa (XM1.out.below ba (by omega));have XN2:=aa (XN1.out.below ba (by omega));have XR2:=aa (XR1.out.below ba (by omega));have S2:=aa (S1.out.below ba);have C2:=aa (C1.out.below ba);have D2:=aa (D1.out.below ba);have z2:=ba.size;clear B1 XM1 XN1 XR1 S1 C1 D1 ba;have XO2:=aa yo;clear yo;have sW:w.heap.size+2<W.heap.size:=zr;obtain ⟨q0,q1,q2,q3⟩:=XM2.out.cells4;go_wp2_with fail
 generalize w1.alloc (.cells #[.slice b0 n0 e0,.slice b1 n1 e1,.bool f,.slice b3 n3 e3] 78)=w2 at B2 XM2 XN2 XR2 S2 C2 D2 XO2 z2 zo q0 q1 q2 q3 ⊢;refine (bg _ E _ _ _ _ _ _ _ _ _ ss cs f bs (h0.below B2.out) (h1.below B2.out) (h3.below B2.out) hw).mono ?_
 rintro e w3 ⟨rfl,hb3⟩;clear q0 q1 q2 q3;have B3:=aa (Below.andThen B2.out hb3);have XM3:=aa (XM2.out.below hb3 (by omega));have XN3:=aa (XN2.out.below hb3 (by omega));have XR3:=aa (XR2.out.below hb3 (by omega));have S3:=aa (S2.out.below hb3);have C3:=aa (C2.out.below hb3);have D3:=aa (D2.out.below hb3);have XO3:=aa (XO2.out.below hb3 (by omega));have z3:=hb3.size;clear B2 XM2 XN2 XR2 S2 C2 D2 XO2 hb3;cases hM:aW ss cs bs
 . have HK:Hid (cK ss cs f bs n sw=false/\dJ ss cs f bs n sw=cs/\dK ss cs f bs n sw=bs):=by
    have hk:cK ss cs f bs n sw=false:=by unfold cK;simp [hM]
    unfold dJ dK;exact ⟨hk,by rw [hk];rfl,by rw [hk];rfl⟩
   obtain ⟨q0,q1,q2,q3⟩:=XM3.out.cells4;obtain ⟨x0,x1,x2,x3⟩:=XO3.out.cells4;obtain ⟨p0,p1,p2,p3⟩:=XR3.out.cells4;have fz:=XR3.out.frozen;have FIN:=aa (dI (f:=f) B3.out D3.out S3.out C3.out r2 r1 r3 (by omega) sW (by omega));clear B3 XM3 XN3 XR3 S3 C3 D3 XO3;go_wp2
   refine bodyPost_ret (v:=.tuple #[.agg #[.slice b0 n0 e0,.slice b1 n1 e1,.bool f,.slice b3 n3 e3],.bool false]) (by simp [results,Tryz.results236,go_sem,p0,p1,p2,p3]) rfl ?_
   exact ⟨_,_,_,by rw [HK.out.1],by rw [HK.out.2.1,HK.out.2.2];exact FIN.out.1,FIN.out.2⟩
 cases f;rotate_left
 . skip
   have HK:Hid (cK ss cs true bs n sw=false/\dJ ss cs true bs n sw=cs/\dK ss cs true bs n sw=bs):=by
    have hk:cK ss cs true bs n sw=false:=by unfold cK;simp [hM]
    unfold dJ dK;exact ⟨hk,by rw [hk];rfl,by rw [hk];rfl⟩
   obtain ⟨q0,q1,q2,q3⟩:=XM3.out.cells4;obtain ⟨x0,x1,x2,x3⟩:=XO3.out.cells4;obtain ⟨p0,p1,p2,p3⟩:=XR3.out.cells4;have fz:=XR3.out.frozen;have FIN:=aa (dI (f:=true) B3.out D3.out S3.out C3.out r2 r1 r3 (by omega) sW (by omega));clear B3 XM3 XN3 XR3 S3 C3 D3 XO3;go_wp2
   refine bodyPost_ret (v:=.tuple #[.agg #[.slice b0 n0 e0,.slice b1 n1 e1,.bool true,.slice b3 n3 e3],.bool false]) (by simp [results,Tryz.results236,go_sem,p0,p1,p2,p3]) rfl ?_
   exact ⟨_,_,_,by rw [HK.out.1],by rw [HK.out.2.1,HK.out.2.2];exact FIN.out.1,FIN.out.2⟩
 obtain ⟨q0,q1,q2,q3⟩:=XM3.out.cells4;have qn:w3.cell? ⟨w.heap.size+1,0,none⟩=some (.int .i64 n):=XN3.out.cell 0;go_wp2_with fail
 refine (cH _ _ _ _ _ _ _ _).mono ?_
 rintro e w4 ⟨rfl,hb4⟩;clear q0 q1 q2 q3;clear qn;have B4:=aa (Below.andThen B3.out hb4);have XM4:=aa (XM3.out.below hb4 (by omega));have XN4:=aa (XN3.out.below hb4 (by omega));have XR4:=aa (XR3.out.below hb4 (by omega));have S4:=aa (S3.out.below hb4);have C4:=aa (C3.out.below hb4);have D4:=aa (D3.out.below hb4);have XO4:=aa (XO3.out.below hb4 (by omega));have z4:=hb4.size;clear B3 XM3 XN3 XR3 S3 C3 D3 XO3 hb4;cases hI:inB n 0 ((n0:Int)-1)
 . have hI2:inB n 0 ((ss.length:Int)-1)=false:=by rw [hl0];exact hI
   have HK:Hid (cK ss cs false bs n sw=false/\dJ ss cs false bs n sw=cs/\dK ss cs false bs n sw=bs):=by
    have hk:cK ss cs false bs n sw=false:=by unfold cK;simp [hI2]
    unfold dJ dK;exact ⟨hk,by rw [hk];rfl,by rw [hk];rfl⟩
   obtain ⟨q0,q1,q2,q3⟩:=XM4.out.cells4;obtain ⟨x0,x1,x2,x3⟩:=XO4.out.cells4;obtain ⟨p0,p1,p2,p3⟩:=XR4.out.cells4;have fz:=XR4.out.frozen;have FIN:=aa (dI (f:=false) B4.out D4.out S4.out C4.out r2 r1 r3 (by omega) sW (by omega));clear B4 XM4 XN4 XR4 S4 C4 D4 XO4;go_wp2
   refine bodyPost_ret (v:=.tuple #[.agg #[.slice b0 n0 e0,.slice b1 n1 e1,.bool false,.slice b3 n3 e3],.bool false]) (by simp [results,Tryz.results236,go_sem,p0,p1,p2,p3]) rfl ?_
   exact ⟨_,_,_,by rw [HK.out.1],by rw [HK.out.2.1,HK.out.2.2];exact FIN.out.1,FIN.out.2⟩
 obtain ⟨q0,q1,q2,q3⟩:=XM4.out.cells4;go_wp2_with fail
 refine (bZ _ _ _ _ sw hl5 (aO (h5.below B4.out)).1 hw5).mono ?_
 rintro e w5 ⟨rfl,hs5⟩;clear q0 q1 q2 q3;have B5:=aa (Below.andSame B4.out hs5);have XM5:=aa (XM4.out.same hs5);have XN5:=aa (XN4.out.same hs5);have XR5:=aa (XR4.out.same hs5);have S5:=aa (S4.out.same hs5);have C5:=aa (C4.out.same hs5);have D5:=aa (D4.out.same hs5);have XO5:=aa (XO4.out.same hs5);have z5:=Nat.le_of_eq hs5.size.symm;clear B4 XM4 XN4 XR4 S4 C4 D4 XO4 hs5;cases hS:da sw
 . have HK:Hid (cK ss cs false bs n sw=false/\dJ ss cs false bs n sw=cs/\dK ss cs false bs n sw=bs):=by
    have hk:cK ss cs false bs n sw=false:=by unfold cK;simp [hS]
    unfold dJ dK;exact ⟨hk,by rw [hk];rfl,by rw [hk];rfl⟩
   obtain ⟨q0,q1,q2,q3⟩:=XM5.out.cells4;obtain ⟨x0,x1,x2,x3⟩:=XO5.out.cells4;obtain ⟨p0,p1,p2,p3⟩:=XR5.out.cells4;have fz:=XR5.out.frozen;have FIN:=aa (dI (f:=false) B5.out D5.out S5.out C5.out r2 r1 r3 (by omega) sW (by omega));clear B5 XM5 XN5 XR5 S5 C5 D5 XO5;go_wp2
   refine bodyPost_ret (v:=.tuple #[.agg #[.slice b0 n0 e0,.slice b1 n1 e1,.bool false,.slice b3 n3 e3],.bool false]) (by simp [results,Tryz.results236,go_sem,p0,p1,p2,p3]) rfl ?_
   exact ⟨_,_,_,by rw [HK.out.1],by rw [HK.out.2.1,HK.out.2.2];exact FIN.out.1,FIN.out.2⟩
 by_cases hL:n1<60
 rotate_left
 . have hL':(60:Int)<=(n1:Int):=by omega
   have hL2:¬cs.length<60:=by omega
   have HK:Hid (cK ss cs false bs n sw=false/\dJ ss cs false bs n sw=cs/\dK ss cs false bs n sw=bs):=by
    have hk:cK ss cs false bs n sw=false:=by unfold cK;simp [hL2]
    unfold dJ dK;exact ⟨hk,by rw [hk];rfl,by rw [hk];rfl⟩
   obtain ⟨q0,q1,q2,q3⟩:=XM5.out.cells4;obtain ⟨x0,x1,x2,x3⟩:=XO5.out.cells4;obtain ⟨p0,p1,p2,p3⟩:=XR5.out.cells4;have fz:=XR5.out.frozen;have FIN:=aa (dI (f:=false) B5.out D5.out S5.out C5.out r2 r1 r3 (by omega) sW (by omega));clear B5 XM5 XN5 XR5 S5 C5 D5 XO5;go_wp2
   refine bodyPost_ret (v:=.tuple #[.agg #[.slice b0 n0 e0,.slice b1 n1 e1,.bool false,.slice b3 n3 e3],.bool false]) (by simp [results,Tryz.results236,go_sem,p0,p1,p2,p3]) rfl ?_
   exact ⟨_,_,_,by rw [HK.out.1],by rw [HK.out.2.1,HK.out.2.2];exact FIN.out.1,FIN.out.2⟩
 have hL':¬(60:Int)<=(n1:Int):=by omega
 have HK:Hid (cK ss cs false bs n sw=true/\dJ ss cs false bs n sw=cs++[(n,sw)]/\dK ss cs false bs n sw=cA bs n):=by
  have hk:cK ss cs false bs n sw=true:=by unfold cK;rw [hM,hl0,hI,hS,decide_eq_true (by omega)];rfl
  unfold dJ dK;exact ⟨hk,by rw [hk];rfl,by rw [hk];rfl⟩
 clear hM hI hS;obtain ⟨q0,q1,q2,q3⟩:=XM5.out.cells4;obtain ⟨x0,x1,x2,x3⟩:=XO5.out.cells4;have qn:w5.cell? ⟨w.heap.size+1,0,none⟩=some (.int .i64 n):=XN5.out.cell 0;have hle:¬(60:Int)<=(n1:Int):=by omega
 have hlw3:n3<=2097152:=by unfold aJ at hw;simp only at hw;omega
 go_wp2_with fail
 clear q0 q1 q2 q3;obtain ⟨i1,hi1,hy0,hy1,hy2⟩:=info_parts Tryz.infoWr;obtain ⟨fpC,mC,rC⟩:=C5.out.mine;have MC:=aa mC;have RC:=aa rC;clear mC rC;have HX5:=aa (h5.below B5.out);have L1:Hid (cs.length+1<=maxLen):=by unfold Hid maxLen;omega
 have L2:Hid ((cs.length+1)*32<=140737488355328):=by unfold Hid;omega
 have hS:w5.drew.cell? ⟨w1.heap.size,1,none⟩=some (.slice b1 n1 e1)/\w5.drew.cell? ⟨w.heap.size+1,0,none⟩=some (.int .i64 n):=⟨XO5.out.cell 1,XN5.out.cell 0⟩;clear x0 x1 x2 x3 qn hle;refine af.start (S:=fun w'=>w'.cell? ⟨w1.heap.size,1,none⟩=some (.slice b1 n1 e1)/\w'.cell? ⟨w.heap.size+1,0,none⟩=some (.int .i64 n)) (k:=9) (by kernel_rfl) ?_
 refine af.t 0 hS ?_
 refine af.t 1 hS ?_
 refine af.t 2 hS ?_
 refine af.t 3 hS ?_
 refine af.one (i:=4) (by kernel_rfl) rfl (fun K hK=>?_)
 go_simp
 refine (bK _ _ _ _ sw (by exact HX5.out.drew) (by omega)).mono ?_
 rintro e wc ⟨ac,cc,rfl,oc,hbd⟩;have hbc:Below w5.heap.size w5 wc:=(by exact (Below.refl w5.heap.size w5).drew.trans hbd);obtain ⟨fpx,mx,rx⟩:=Ty.Own.mine (lo:=w5.heap.size) oc;have MX:=aa mx;have RX:=aa rx;clear mx rx oc hbd;have xoc:Box wc w1.heap.size 78 _:=XO5.out.below hbc (by omega);have xnc:Box wc (w.heap.size+1) 3 _:=XN5.out.below hbc (by omega);have hS3:wc.cell? ⟨w1.heap.size,1,none⟩=some (.slice b1 n1 e1)/\wc.cell? ⟨w.heap.size+1,0,none⟩=some (.int .i64 n):=⟨xoc.cell 1,xnc.cell 0⟩;have hS4:(wc.alloc (.cells #[.int .i64 n,.slice ac n5 cc] 142)).cell? ⟨w1.heap.size,1,none⟩=some (.slice b1 n1 e1)/\(wc.alloc (.cells #[.int .i64 n,.slice ac n5 cc] 142)).cell? ⟨w.heap.size+1,0,none⟩=some (.int .i64 n):=⟨(xoc.alloc (.cells #[.int .i64 n,.slice ac n5 cc] 142)).cell 1,(xnc.alloc (.cells #[.int .i64 n,.slice ac n5 cc] 142)).cell 0⟩;have XOC:=aa xoc;have XNC:=aa xnc;have HBC:=aa hbc;clear xoc hbc xnc;go_wp2_with fail
 refine hK.out _ _ (fun _=>hS3) ?_
 clear hK K;refine af.t 5 hS3 ?_
 refine af.one (i:=6) (by kernel_rfl) rfl (fun K hK=>?_)
 go_simp
 refine hK.out _ _ (fun _=>hS4) ?_
 clear hK K;refine af.one (i:=7) (by kernel_rfl) rfl (fun K hK=>?_)
 refine bX tWr (by rfl) _ _ 76 (by rfl) 142 i1 (.agg #[.int .i64 0,.slice none 0 0]) 32 Tryz.underlying76 hi1 hy0 hy1 hy2 rfl Nat.zero_lt_two (.slice b1 n1 e1) cs fpC (by rfl) ?_ ⟨wc.heap.size,0,none⟩ 1 [.int .i64 n,.slice ac n5 cc] (n,sw) fpx (by rfl) ?_ ?_ ?_ ?_ L1.out L2.out ?_
 . exact (MC.out.below HBC.out).alloc _
 . exact (dF n MX.out).alloc _
 . intro b hb hb'
   have h1:=RC.out b hb;have h2:=RX.out b hb';omega
 . exact aZ _ _ _
 . intro u hu
   simp at hu
   rcases hu with hu|hu<;>(rw [hu];rfl)
 intro g cap wA fpA m1' m2' m3';rw [hl1] at m1' ⊢;have zB:(wc.alloc (.cells #[.int .i64 n,.slice ac n5 cc] 142)).heap.size=wc.heap.size+1:=by simp
 have ya:Box wA w1.heap.size 78 _:=(XOC.out.alloc _).turned m3' (fun hm=>by have:=RC.out _ hm;omega);have yn:Box wA (w.heap.size+1) 3 _:=(XNC.out.alloc _).turned m3' (fun hm=>by have:=RC.out _ hm;omega);have hS5:wA.cell? ⟨w1.heap.size,1,none⟩=some (.slice b1 n1 e1)/\wA.cell? ⟨w.heap.size+1,0,none⟩=some (.int .i64 n):=⟨ya.cell 1,yn.cell 0⟩;have c9:=hS5.1;have fz:=ya.frozen 1;have YA:=aa ya;have M1:=aa m1';have M2:=aa m2';have M3:=aa m3';have ZB:=aa zB;clear ya m1' m2' m3' zB yn;refine hK.out _ _ (fun _=>hS5) ?_
 clear hK K;simp only [Act.put,List.setIfInBounds_toArray,List.set_cons_zero,List.set_cons_succ]
 refine af.t 8 hS5 ?_
 refine af.one (i:=9) (by kernel_rfl) rfl (fun K hK=>?_)
 go_simp
 refine hK.out _ _ (fun h=>absurd rfl h) ?_
 clear hK K;refine af.done (by kernel_rfl) ?_ _
 have zc:=HBC.out.size;have zA:=M3.out.size;have zB:=ZB.out;have hb6:But m2 (w1.heap.size+1) w5 (wA.setCell ⟨w1.heap.size,1,none⟩ (.slice (some ⟨g,0,none⟩) (n1+1) cap)):=((But.of_below (Below.andThen HBC.out ((Below.refl _ _).alloc (Nat.le_refl _) _))).trans (M3.out.but (fun b hb=>by have:=RC.out b hb;omega))).trans (But.setCell (by omega) (by omega) _);have rA:∀b∈fpA,m2<=b/\b≠w1.heap.size/\b<wA.heap.size:=fun b hb=>by
  have hlt:=M1.out.lt b hb;rcases M2.out b hb with h|h|h
  . have:=RC.out b h
    omega
  . have:=RX.out b h
    omega
  have:=h.1;omega
 have mZ:=M1.out.setCell (g:=w1.heap.size) (j:=1) (fun hm=>by have:=rA _ hm;omega) (.slice (some ⟨g,0,none⟩) (n1+1) cap);have yZ:=YA.out.set 1 (.slice (some ⟨g,0,none⟩) (n1+1) cap);have zs:wA.heap.size<=(wA.setCell ⟨w1.heap.size,1,none⟩ (.slice (some ⟨g,0,none⟩) (n1+1) cap)).heap.size:=by simp
 have MZ:=aa mZ;have RZ:Hid (∀b∈fpA,m2<=b/\b≠w1.heap.size/\b<(wA.setCell ⟨w1.heap.size,1,none⟩ (.slice (some ⟨g,0,none⟩) (n1+1) cap)).heap.size):=fun b hb=>by have:=rA b hb;omega
 have YZ:=aa yZ;clear mZ rA yZ zs zA zB zc hS hS3 hS4 hS5 c9 fz YA M1 M2 M3 ZB XOC MX RX HBC MC RC HX5 L1 L2 XNC;clear XO5;clear C5;have B6:=aa (Below.andBut B5.out hb6 (by omega));have XM6:=aa (XM5.out.kept (hb6.block _ (by omega) (by omega)));have XN6:=aa (XN5.out.kept (hb6.block _ (by omega) (by omega)));have XR6:=aa (XR5.out.kept (hb6.block _ (by omega) (by omega)));have S6:=aa (S5.out.but hb6 (by omega));have D6:=aa (D5.out.but hb6 (by omega));have z6:=hb6.size;clear B5 XM5 XN5 XR5 S5 D5 hb6;generalize (wA.setCell ⟨w1.heap.size,1,none⟩ (.slice (some ⟨g,0,none⟩) (n1+1) cap))=w6 at B6 XM6 XN6 XR6 S6 D6 z6 MZ RZ YZ ⊢;have XO6:Hid (Box w6 w1.heap.size 78 #[.slice b0 n0 e0,.slice (some ⟨g,0,none⟩) (n1+1) cap,.bool false,.slice b3 n3 e3]):=YZ.out;clear YZ;have hmf:∀(fn:Fn) (first cap:Array Value) (w:World),(Instr.makeFunc fn first cap).run Tryz.prog w=.ok (.func fn first cap) w:=fun _ _ _ _=>rfl;obtain ⟨x0,x1,x2,x3⟩:=XO6.out.cells4;have HCN:Hid (w6.cell? ⟨w.heap.size+1,0,none⟩=some (.int .i64 n)):=XN6.out.cell 0;go_wp2_with fail
 refine (lz _ W.heap.size m1 _ _ _ bs n (w.heap.size+1) D6.out HCN.out (by omega) (by omega)).mono ?_
 rintro e wb ⟨d3,f3,rfl,od,hbB⟩;have zb:=hbB.size;have xob:Box wb w1.heap.size 78 _:=XO6.out.kept (hbB.block _ (by omega) (by omega));clear x0 x1 x2 x3;obtain ⟨x0,x1,x2,x3⟩:=xob.cells4;have fz:=xob.frozen 3;have XOB:=aa xob;have OD:=aa od;have HBB:=aa hbB;clear xob od hbB;have bs9:=But.setCell (lo:=w1.heap.size) (hi:=w1.heap.size+1) (g:=w1.heap.size) (j:=3) (w:=wb) (Nat.le_refl _) (Nat.lt_succ_self _) (.slice d3 (cA bs n).length f3);have zt:=bs9.size;have MY:=aa ((MZ.out.but HBB.out (fun b hb=>by have:=RZ.out b hb;omega)).but bs9 (fun b hb=>by have:=RZ.out b hb;omega));have YZ:=aa (XOB.out.set 3 (.slice d3 (cA bs n).length f3));have D7:=aa (OD.out.but bs9 (.inl (by omega)));have S7:=aa ((S6.out.but HBB.out (.inr (Nat.le_refl _))).but bs9 (.inl (by omega)));have XR7:=aa ((XR6.out.kept (HBB.out.block _ (by omega) (by omega))).kept (bs9.block _ (by omega) (by omega)));have B7:=aa (Below.andBut (Below.andBut B6.out HBB.out (by omega)) bs9 (by omega));have RY:Hid (∀b∈fpA,m2<=b/\b<(wb.setCell ⟨w1.heap.size,3,none⟩ (.slice d3 (cA bs n).length f3)).heap.size):=fun b hb=>by have:=RZ.out b hb;omega
 have z7:w6.heap.size<=(wb.setCell ⟨w1.heap.size,3,none⟩ (.slice d3 (cA bs n).length f3)).heap.size:=by omega
 clear bs9 zt zb XOB OD HBB MZ RZ HCN hmf B6 XM6 XN6 XR6 S6 D6 XO6;obtain ⟨t0,t1,t2,t3⟩:=Box.cells4 (v0:=.slice b0 n0 e0) (v1:=.slice (some ⟨g,0,none⟩) (n1+1) cap) (v2:=.bool false) (v3:=.slice d3 (cA bs n).length f3) YZ.out;obtain ⟨p0,p1,p2,p3⟩:=XR7.out.cells4;have fr:=XR7.out.frozen;go_wp2
 generalize (wb.setCell ⟨w1.heap.size,3,none⟩ (.slice d3 (cA bs n).length f3))=w7 at B7 S7 D7 XR7 MY RY YZ z7 p0 p1 p2 p3 fr t0 t1 t2 t3 ⊢;have hbt:But (w.heap.size+2) (w.heap.size+2+1) w7 ((((w7.setCell ⟨w.heap.size+2,0,none⟩ (.slice b0 n0 e0)).setCell ⟨w.heap.size+2,1,none⟩ (.slice (some ⟨g,0,none⟩) (n1+1) cap)).setCell ⟨w.heap.size+2,2,none⟩ (.bool false)).setCell ⟨w.heap.size+2,3,none⟩ (.slice d3 (cA bs n).length f3)):=
  (((But.setCell (by omega) (by omega) _).trans (But.setCell (by omega) (by omega) _)).trans (But.setCell (by omega) (by omega) _)).trans (But.setCell (by omega) (by omega) _)
 have z99:=hbt.size;refine bodyPost_ret (v:=.tuple #[.agg #[.slice b0 n0 e0,.slice (some ⟨g,0,none⟩) (n1+1) cap,.bool false,.slice d3 (cA bs n).length f3],.bool true]) (by simp [results,Tryz.results236,go_sem,p0,p1,p2,p3]) rfl ?_
 have FIN:Hid ((bC 142).Own ((((w7.setCell ⟨w.heap.size+2,0,none⟩ (.slice b0 n0 e0)).setCell ⟨w.heap.size+2,1,none⟩ (.slice (some ⟨g,0,none⟩) (n1+1) cap)).setCell ⟨w.heap.size+2,2,none⟩ (.bool false)).setCell ⟨w.heap.size+2,3,none⟩ (.slice d3 (cA bs n).length f3)) w.heap.size ((((w7.setCell ⟨w.heap.size+2,0,none⟩ (.slice b0 n0 e0)).setCell ⟨w.heap.size+2,1,none⟩ (.slice (some ⟨g,0,none⟩) (n1+1) cap)).setCell ⟨w.heap.size+2,2,none⟩ (.bool false)).setCell ⟨w.heap.size+2,3,none⟩ (.slice d3 (cA bs n).length f3)).heap.size [.slice b0 n0 e0,.slice (some ⟨g,0,none⟩) (n1+1) cap,.bool false,.slice d3 (cA bs n).length f3] (ss,cs++[(n,sw)],false,cA bs n)):=bt (S7.out.but hbt (by omega)) ((MY.out.own (lo:=m2) (hi:=w7.heap.size) (fun b hb=>RY.out b hb)).but hbt (by omega)) (D7.out.but hbt (by omega)) (by omega) (by omega) (by omega) (by omega) (by omega) (by omega);have FB:=aa (Below.andBut B7.out hbt (by omega));exact ⟨_,_,_,by rw [HK.out.1],by rw [HK.out.2.1,HK.out.2.2];exact FIN.out,FB.out⟩
theorem oB {w:World} {vs:List Value} {x:Int×List Int} {fp:List Nat} (h:tWr.Mine w vs x fp):∃a cap,vs=[.int .i64 x.1,.slice a x.2.length cap]/\aA.Mine w [.slice a x.2.length cap] x.2 fp:=by
 have hl:vs.length=2:=tWr.rdLen (tWr.owRd h.1);match vs,hl,h with
 | [u0,u1],_,h=>
  obtain ⟨f1,f2,hf,m1,m2,_⟩:=eg (t:=eo) (u:=aA) (vs:=[u0]) (us:=[u1]) rfl h;obtain ⟨e1,e2⟩:=m1.1;subst e2;obtain ⟨a,cap,rfl⟩:=aw m2.rd;refine ⟨a,cap,by simpa using e1,?_⟩
  rw [hf];exact m2
theorem iG.kept {t:Ty} {w w':World} {vs:List Value} {ys:List t.D} {fs:List (List Nat)} {fp:List Nat} (h:iG t w vs ys fs) (ht:aq fp w w') (hd:∀b∈fs.flatten,b∉fp):iG t w' vs ys fs:=by
 have hl:=h.lt;refine ⟨h.1,h.2.1,h.2.2.1,fun i y hy=>?_⟩
 obtain ⟨f,hf,ho⟩:=h.2.2.2 i y hy;have hm:∀b∈f,b∈fs.flatten:=fun b hb=>List.mem_flatten.2 ⟨f,List.mem_of_getElem? hf,hb⟩;exact ⟨f,hf,t.owKept ho (fun b hb=>ht.block b (hl b (hm b hb)) (hd b (hm b hb))) ht.size⟩
theorem wr_one {w:World} {cs:List Value} {ds:List aE} {fps:List (List Nat)} (hn:fps.flatten.Nodup) (hl:cs.length=ds.length*2) (h:∀i y,ds[i]?=some y->∃f,fps[i]?=some f/\tWr.ow w ((cs.drop (i*2)).take 2) y f):∀u∈cs,u.oneCell'=true:=by
 intro u hu;obtain ⟨m,hm⟩:=List.mem_iff_getElem?.1 hu;have hml:=(List.getElem?_eq_some_iff.1 hm).1;have hil:m / 2<ds.length:=by omega
 obtain ⟨f,hf,ho⟩:=h (m / 2) _ (List.getElem?_eq_getElem hil);obtain ⟨a,c,hv,_⟩:=oB ⟨ho,(ep hn hf).1⟩;have h1:((cs.drop (m / 2*2)).take 2)[m % 2]?=some u:=by
  rw [List.getElem?_take,if_pos (by omega),List.getElem?_drop,show m / 2*2+m % 2=m by omega];exact hm
 rw [hv] at h1;have h2:u∈[Value.int .i64 (ds[m / 2]).1,.slice a (ds[m / 2]).2.length c]:=List.mem_of_getElem? h1;simp at h2
 rcases h2 with h2|h2<;>(rw [h2];rfl)
theorem oJ (w:World) (B:Nat) (x:al) (ms:List ai) (ds:List (Int×List Int)) (fm fd:List Nat) (h:aD w B x ms ds fm fd) (m:Int):
 Calls Tryz.prog 77 #[.pointer (some ⟨B,0,none⟩),.int .i64 m] w fun e w'=>e=.returned (.tuple #[])/\aD w' B (pQ x m) ms ds fm fd/\But B (B+1) w w':=by
 obtain ⟨bm,bd,cm,cd,X,hm,hd,hr,r1,r2⟩:=h;have X0:=X;unfold aC at X0;obtain ⟨k0,k1,k2,k3,k4,k5,k6,k7,k8,k9,k10,k11,k12⟩:=X0.cells13;have fz:=X0.frozen;have HB1:=aa (But.setCell (w:=w) (g:=B) (j:=12) (Nat.le_refl B) (Nat.lt_succ_self B) (.bool true));have HB2:=aa ((But.setCell (w:=w) (g:=B) (j:=4) (Nat.le_refl B) (Nat.lt_succ_self B) (.int .i64 m)).trans (But.setCell (j:=5) (Nat.le_refl B) (Nat.lt_succ_self B) (.int .i64 0)));have HA1:Hid (aD (w.setCell ⟨B,12,none⟩ (.bool true)) B {x with uH:=true} ms ds fm fd):=⟨bm,bd,cm,cd,X.set 12 _,hm.setCell r1 _,hd.setCell r2 _,hr,r1,r2⟩;have HA2:Hid (aD ((w.setCell ⟨B,4,none⟩ (.int .i64 m)).setCell ⟨B,5,none⟩ (.int .i64 0)) B {x with lost:=m,uG:=0} ms ds fm fd):=⟨bm,bd,cm,cd,(X.set 4 _).set 5 _,(hm.setCell r1 _).setCell r1 _,(hd.setCell r2 _).setCell r2 _,hr,r1,r2⟩;clear X X0 hm hd;go_enter Tryz.func77,Tryz.ntmps77
 by_cases h1:x.lost=-1
 . have HV:Hid (pQ x m={x with lost:=m,uG:=0}):=if_pos (.inl h1)
   rw [h1] at k4;clear h1;go_wp2
   refine bodyPost_end (v:=.tuple #[]) (results_none rfl _ _ _) rfl ?_
   exact ⟨rfl,by rw [HV.out];exact HA2.out,HB2.out⟩
 by_cases h2:x.lost=m
 . have HV:Hid (pQ x m={x with lost:=m,uG:=0}):=if_pos (.inr h2)
   rw [h2] at k4 h1;clear h2;go_wp2
   refine bodyPost_end (v:=.tuple #[]) (results_none rfl _ _ _) rfl ?_
   exact ⟨rfl,by rw [HV.out];exact HA2.out,HB2.out⟩
 have HV:Hid (pQ x m={x with uH:=true}):=if_neg (by omega);have g1:(x.lost !=-1)=true:=by simp [h1]
 have g2:(x.lost !=m)=true:=by simp [h2]
 go_wp2
 refine bodyPost_ret (v:=.tuple #[]) (results_none rfl _ _ _) rfl ?_
 exact ⟨rfl,by rw [HV.out];exact HA1.out,HB1.out⟩
end Go.Proofs.YtejokiafgbjdaaaGreat
