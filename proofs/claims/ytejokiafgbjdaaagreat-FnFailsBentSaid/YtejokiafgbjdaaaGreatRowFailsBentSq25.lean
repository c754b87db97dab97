/-
 The walks of the program's look whether an array is right: disk by disk, entry by entry, and as a whole. Condition: it weighs at most 2097152.
-/
import Derived.Test.YtejokiafgbjdaaaGreatRowFailsBentSq21
import Derived.Test.YtejokiafgbjdaaaGreatRowFailsBentSq3
import Derived.Test.YtejokiafgbjdaaaGreatRowFailsBentSq22
import Derived.Test.YtejokiafgbjdaaaGreatRowFailsBentSq11
import Derived.Test.YtejokiafgbjdaaaGreatRowFailsBentSq6
import Derived.Test.YtejokiafgbjdaaaGreatRowFailsBentSq7

set_option maxRecDepth 100000
set_option maxHeartbeats 8000000
set_option linter.unusedSimpArgs false

namespace Go.Proofs.YtejokiafgbjdaaaGreat
open Go.RowKit

theorem sO {w:World} {gs n cap q lo hi l h':Nat} {ss:List (List Int)} {fs:List Nat} {v:Value} {z:List Int} (hM:aR.Mine w [.slice (some ⟨gs,0,none⟩) n cap] ss fs) (hq:q<n) (hx:aA.In w l h' [v] z) (hg:gs<l∨h'<=gs) (hr:∀b∈fs,lo<=b/\b<hi) (h1:lo<=l) (h2:h'<=hi):
 (∃old,w.cell? ⟨gs,q,none⟩=some old)/\w.frozen? ⟨gs,q,none⟩=false/\gs∈fs/\aR.In (w.setCell ⟨gs,q,none⟩ v) lo hi [.slice (some ⟨gs,0,none⟩) n cap] (ss.set q z):=by
 obtain ⟨hl,hc,hm⟩:=ae hM.rd;have hjl:ss[q]?=some (ss[q]'(by omega)):=List.getElem?_eq_getElem (by omega);obtain ⟨hgf,PF,hP,_⟩:=eG hM;obtain ⟨cs0,f0,m0,n0,_,s0,c0,fz0,_⟩:=oW hM hjl;have hgz:=hM.lt gs hgf;have l0:=aA.rdLen (aA.owRd m0.1);have hone:∃old,w.cell? ⟨gs,q,none⟩=some old:=by
  have:=c0 0 (by decide);have hl1:0<cs0.length:=by rw [l0];decide
  refine ⟨cs0[0],?_⟩
  rw [show q=q*aA.n+0 from by show q=q*1+0;omega,this];exact List.getElem?_eq_getElem hl1
 refine ⟨hone,fz0 q,hgf,pZ (by simpa using hl) hc hm (hr gs hgf) (by simp;exact hgz) (fun i y hy=>?_)⟩
 by_cases hij:i=q
 . subst hij
   have hyx:y=z:=by
    rw [List.getElem?_set_self (by omega)] at hy;simpa using hy.symm
   subst hyx;obtain ⟨f,r,k⟩:=hx;have hne:∀b∈f,b≠gs:=fun b hb e=>by have:=k b hb;clear r;omega
   have hin:∀b∈f,lo<=b/\b<hi:=fun b hb=>by have:=k b hb;clear r;omega
   refine ⟨[v],f,aA.rdKept r (fun b hb=>Below.heap_setCell _ _ _ _ (hne b hb)) (by simp),hin,fun k' hk=>?_⟩
   have hk:k'=0:=by have:k'<1:=hk;omega
   subst hk;obtain ⟨old,ho⟩:=hone;show World.cell? _ ⟨gs,i*1+0,none⟩=_
   rw [show i*1+0=i from by omega];go_simp
 rw [List.getElem?_set_ne (fun e=>hij e.symm)] at hy;obtain ⟨cs,m,ng,sub,c⟩:=hP i y hy;refine ⟨cs,PF i,aA.rdKept (aA.owRd m.1) (fun b hb=>Below.heap_setCell _ _ _ _ (fun (e:b=gs)=>ng (e▸hb))) (by simp),fun b hb=>hr b (sub b hb),fun k' hk=>?_⟩
 have hk0:k'=0:=by have:k'<1:=hk;omega
 subst hk0;rw [←c 0 hk];show World.cell? _ ⟨gs,i*1+0,none⟩=w.cell? ⟨gs,i*1+0,none⟩
 rw [show i*1+0=i from by omega];go_simp
theorem sP {E F:TypeId} {w:World} {g n cap j q lo hi l h':Nat} {ms:List ai} {fm:List Nat} {ss:List (List Int)} {cs:List (Int×List Int)} {f:Bool} {bs:List Int} {v:Value} {z:List Int} (hM:(bk E F).Mine w [.slice (some ⟨g,0,none⟩) n cap] ms fm) (hj:ms[j]?=some (ss,cs,f,bs)) (hq:q<ss.length) (hz:aA.In w l h' [v] z) (hsep:∀b∈fm,b<l∨h'<=b) (hr:∀b∈fm,lo<=b/\b<hi) (h1:lo<=l) (h2:h'<=hi):
 ∃gs c0,w.cell? ⟨g,j*4,none⟩=some (.slice (some ⟨gs,0,none⟩) ss.length c0)/\gs∈fm/\gs≠g/\(∃old,w.cell? ⟨gs,q,none⟩=some old)/\w.frozen? ⟨gs,q,none⟩=false/\(bk E F).In (w.setCell ⟨gs,q,none⟩ v) lo hi [.slice (some ⟨g,0,none⟩) n cap] (ms.set j (ss.set q z,cs,f,bs)):=by
 obtain ⟨hl,hc,hm⟩:=ae hM.rd;have hjl:=(List.getElem?_eq_some_iff.1 hj).1;obtain ⟨hgf,PF,hP,hD⟩:=eG hM;have hgz:=hM.lt g hgf;obtain ⟨cs0,m0,ng0,sub0,c0⟩:=hP j _ hj;have l0:=(bC E).rdLen ((bC E).owRd m0.1);obtain ⟨v0,v1,v2,v3,rfl⟩:∃v0 v1 v2 v3,cs0=[v0,v1,v2,v3]:=by
  match cs0,l0 with
  | [v0,v1,v2,v3],_=>exact ⟨v0,v1,v2,v3,rfl⟩
 obtain ⟨a0,k0,a1,k1,a3,k3,ss',cs',f',bs',hxx,rfl,rfl,rfl,rfl,_,_,_⟩:=dP m0.rd;obtain ⟨rfl,rfl,rfl,rfl⟩:ss=ss'/\cs=cs'/\f=f'/\bs=bs':=by simpa using hxx
 obtain ⟨f0,g1,hF,p0,m1,d0⟩:=eg (t:=aR) (u:=dO (aU E) (dO eY aA)) (vs:=[_]) (us:=[_,_,_]) rfl m0;obtain ⟨f1,g2,rfl,p1,m2,d1⟩:=eg (t:=aU E) (u:=dO eY aA) (vs:=[_]) (us:=[_,_]) rfl m1;obtain ⟨f2,f3,rfl,_,p3,d2⟩:=eg (t:=eY) (u:=aA) (vs:=[_]) (us:=[_]) rfl m2;obtain ⟨gs,rfl⟩:=bG p0 (by omega);have s0:∀b∈f0,b∈PF j:=fun b hb=>by rw [hF];exact List.mem_append.2 (.inl hb)
 have s1:∀b∈f1,b∈PF j:=fun b hb=>by rw [hF];exact List.mem_append.2 (.inr (List.mem_append.2 (.inl hb)))
 have s3:∀b∈f3,b∈PF j:=fun b hb=>by rw [hF];exact List.mem_append.2 (.inr (List.mem_append.2 (.inr (List.mem_append.2 (.inr hb)))))
 have hrj:∀b∈PF j,lo<=b/\b<hi:=fun b hb=>hr b (sub0 b hb);obtain ⟨q1,_⟩:=eG p0;have hgs:gs∈PF j:=s0 gs q1;obtain ⟨e1,e2,_,e4⟩:=sO p0 hq hz (hsep gs (sub0 gs hgs)) (fun b hb=>hrj b (s0 b hb)) h1 h2;have n1:gs∉f1:=fun hm=>d0 gs q1 (List.mem_append.2 (.inl hm));have n3:gs∉f3:=fun hm=>d0 gs q1 (List.mem_append.2 (.inr (List.mem_append.2 (.inr hm))));have c1:=(p1.setCell (g:=gs) (j:=q) n1 v).toIn (lo:=lo) (hi:=hi) (fun b hb=>hrj b (s1 b hb));have c3:=(p3.setCell (g:=gs) (j:=q) n3 v).toIn (lo:=lo) (hi:=hi) (fun b hb=>hrj b (s3 b hb));have hx:(bC E).In (w.setCell ⟨gs,q,none⟩ v) lo hi [.slice (some ⟨gs,0,none⟩) ss.length k0,.slice a1 cs.length k1,.bool f,.slice a3 bs.length k3] (ss.set q z,cs,f,bs):=sM e4 c1 c3;have hgg:gs≠g:=fun e=>ng0 (e▸hgs);refine ⟨gs,k0,c0 0 (show 0<4 by decide),sub0 gs hgs,hgg,e1,e2,pZ (by simpa using hl) hc hm (hr g hgf) (by simp;exact hgz) (fun i y hy=>?_)⟩
 have hcell:∀p,(w.setCell ⟨gs,q,none⟩ v).cell? ⟨g,p,none⟩=w.cell? ⟨g,p,none⟩:=fun p=>World.cell?_of_block (w:=w) (Below.heap_setCell _ _ _ _ (fun (e:g=gs)=>hgg e.symm));by_cases hij:i=j
 . subst hij
   have hyx:y=(ss.set q z,cs,f,bs):=by
    rw [List.getElem?_set_self (by omega)] at hy;simpa using hy.symm
   subst hyx;obtain ⟨ff,r,k⟩:=hx;exact ⟨_,ff,r,k,fun p hp=>(hcell _).trans (c0 p hp)⟩
 rw [List.getElem?_set_ne (fun e=>hij e.symm)] at hy;obtain ⟨csi,mi,_,subi,ci⟩:=hP i y hy;have hil:=(List.getElem?_eq_some_iff.1 hy).1;have hni:gs∉PF i:=fun hm=>by
  rcases Nat.lt_or_gt_of_ne hij with h|h
  . exact hD i j h hjl gs hm hgs
  exact hD j i h hil gs hgs hm
 exact ⟨csi,PF i,(bC E).rdKept ((bC E).owRd mi.1) (fun b hb=>Below.heap_setCell _ _ _ _ (fun (e:b=gs)=>hni (e▸hb))) (by simp),fun b hb=>hr b (subi b hb),fun p hp=>(hcell _).trans (ci p hp)⟩
def iq (x:al):Bool:=inB x.seq 0 60000&&(inB x.tail 0 60000&&inB (x.seq-x.tail) 0 4)
theorem qD {x:al} (hg:bI x.n x.s=true):gF x.n x.s x.lost x.uG=cS x:=by
 obtain ⟨g1,g2,g3,g4⟩:=az.1 hg;rw [Bool.eq_iff_iff,jG];unfold cS;simp only [Bool.and_eq_true,aG,Bool.or_eq_true,Bool.not_eq_true',decide_eq_false_iff_not,decide_eq_true_eq]
 omega
theorem sk (x:al):dM x=(inB x.gen 0 60000&&(inB x.uI (-1) 1000&&iq x)):=by
 rw [Bool.eq_iff_iff];unfold dM iq;simp only [Bool.and_eq_true,aG,decide_eq_true_eq]
 omega
theorem sl {x:al} {ms:List ai} {ds:List (Int×List Int)} (hg:bI x.n x.s=true):aX x ms ds=(inB x.id 1 60000&&(gF x.n x.s x.lost x.uG&&(inB x.gen 0 60000&&(inB x.uI (-1) 1000&&(bS x ms&&(iq x&&dU x ds)))))):=by
 unfold aX;rw [hg,qD hg,sk];cases inB x.id 1 60000<;>cases cS x<;>cases inB x.gen 0 60000<;>cases inB x.uI (-1) 1000<;>cases bS x ms<;>cases iq x<;>cases dU x ds<;>rfl
theorem jh {x:al} {y:Int} (hg:bI x.n x.s=true):bQ x.n x.s y=inB y 0 (x.s-1):=by unfold bQ;rw [hg];rfl
theorem pJ {zs:List Int} (h:zs.length<=12):da zs=cE zs:=by unfold da;simp [h]
theorem uz {x:al} {ds:List (Int×List Int)} {p:Nat} {y:Int} {zs:List Int} {q:Int×List Int} (hq:ds[p]?=some q) (h:y<=q.1):cW x ds (p+1) (y,zs)=false:=by
 have:ds.getD (p+1-1) (0,[])=q:=by rw [Nat.add_sub_cancel,List.getD_eq_getElem?_getD,hq];rfl
 unfold cW;rw [this];have h2:¬q.1<y:=by omega
 simp [h2]
theorem dX (w:World) (n s:Int) (hs:1<=s/\s<=8):Calls Tryz.prog 187 #[.agg #[.int .i64 n,.int .i64 s]] w fun e w'=>e=.returned (.int .i64 (6+s))/\Below w.heap.size w w':=by
 have hA:=ah w (.cells #[.int .i64 n,.int .i64 s] 25);obtain ⟨k0,k1⟩:=(cn.new w 25 n s).cells;have hd:bp s=6+s:=by unfold bp;split<;>omega
 have HD:=aa hd;clear hd;go_enter Tryz.func187,Tryz.ntmps187
 go_wp2_with fail
 refine (fM _ _).mono ?_
 rintro e w1 ⟨rfl,h1⟩;subst h1;rw [HD.out];go_wp2
 go_ret
 exact ⟨rfl,hA⟩
theorem qE (w:World) (E F:TypeId) (x:al) (am ad:Option Addr) (nm cm nd cd:Nat) (ms:List ai) (h0:(bk E F).Rd w [.slice am nm cm] ms) (hw:aK ms<=2097152) (hg:bI x.n x.s=true):
 Calls Tryz.prog 131 #[.agg #[.int .i64 x.id,.int .i64 x.n,.int .i64 x.s,.slice am nm cm,.int .i64 x.lost,.int .i64 x.uG,.int .i64 x.seq,.int .i64 x.tail,.int .i64 x.gen,.slice ad nd cd,.int .i64 x.uI,.bool x.down,.bool x.uH]] w fun e w'=>e=.returned (.bool (bS x ms))/\Below w.heap.size w w':=by
 obtain ⟨hl,hc,hm⟩:=ae h0;obtain ⟨g1,g2,g3,g4⟩:=az.1 hg;have hA:=ah w (.cells #[.int .i64 x.id,.int .i64 x.n,.int .i64 x.s,.slice am nm cm,.int .i64 x.lost,.int .i64 x.uG,.int .i64 x.seq,.int .i64 x.tail,.int .i64 x.gen,.slice ad nd cd,.int .i64 x.uI,.bool x.down,.bool x.uH] 29);have X:=Box.new w 29 #[.int .i64 x.id,.int .i64 x.n,.int .i64 x.s,.slice am nm cm,.int .i64 x.lost,.int .i64 x.uG,.int .i64 x.seq,.int .i64 x.tail,.int .i64 x.gen,.slice ad nd cd,.int .i64 x.uI,.bool x.down,.bool x.uH];have zA:=X.lt;have hnm:nm<=2097152:=by unfold aK at hw;omega
 have h1:=h0.below hA;obtain ⟨k0,k1,k2,k3,k4,k5,k6,k7,k8,k9,k10,k11,k12⟩:=X.cells13;by_cases hN:(nm:Int)=x.n
 . have hN1:((nm:Int)==x.n)=true:=by simpa using hN
   have hN2:((nm:Int) !=x.n)=false:=by simpa using hN
   have HN:=aa hN;clear hN;go_enter Tryz.func131,Tryz.ntmps131
   go_wp2
   generalize w.alloc (.cells #[.int .i64 x.id,.int .i64 x.n,.int .i64 x.s,.slice am nm cm,.int .i64 x.lost,.int .i64 x.uG,.int .i64 x.seq,.int .i64 x.tail,.int .i64 x.gen,.slice ad nd cd,.int .i64 x.uI,.bool x.down,.bool x.uH] 29)=W at hA X zA h1 k0 k1 k2 k3 k4 k5 k6 k7 k8 k9 k10 k11 k12 ⊢;clear k0 k1 k2 k3 k4 k5 k6 k7 k8 k9 k10 k11 k12;go_loopw [15] (fun i wr=>∃j:Nat,j<=nm/\i=.int .i64 j/\(∀(q:Nat) (m:ai),q<j->ms[q]?=some m->cV x q m=true)/\Below W.heap.size W wr) (fun i _=>nm-(intOf i).toNat)
   case atStart=>exact ⟨0,Nat.zero_le _,rfl,fun q m hq=>by omega,Below.refl _ _⟩
   obtain ⟨j,hj,rfl,hall,hb⟩:=hrel;have Xr:=X.below hb zA;by_cases hjn:j<nm
   . rcases cF rfl h1 with h0'|⟨b,off,rfl,hbl,hcs⟩
     . omega
     have hdj:ms[j]?=some (ms[j]'(by omega)):=List.getElem?_eq_getElem (by omega);generalize ms[j]'(by omega)=m at hdj;obtain ⟨v0,v1,v2,v3,hv0,hv1,hv2,hv3,hrv⟩:=hcs j m hdj;obtain ⟨a0,c0,a1,c1,a3,c3,ss,cs,f,bs,rfl,rfl,rfl,rfl,rfl,r0,r1,r3⟩:=dP hrv;have u0:=(hb.cell (p:=⟨b,off+j*4,none⟩) hbl).trans hv0;have u1:=(hb.cell (p:=⟨b,off+j*4+1,none⟩) hbl).trans hv1;have u2:=(hb.cell (p:=⟨b,off+j*4+2,none⟩) hbl).trans hv2;have u3:=(hb.cell (p:=⟨b,off+j*4+3,none⟩) hbl).trans hv3;have i1:(0:Int)<=(j:Int):=by omega
     have i2:(j:Int)<(nm:Int):=by omega
     have hwm:=Nat.le_trans (cD hdj) hw;have HDJ:=aa hdj;clear hcs hv0 hv1 hv2 hv3 hrv hdj;have b1:=ah wr (.cells #[.slice a0 ss.length c0,.slice a1 cs.length c1,.bool f,.slice a3 bs.length c3] 78);have Y1:=Box.new wr 78 #[.slice a0 ss.length c0,.slice a1 cs.length c1,.bool f,.slice a3 bs.length c3];have X1:=Xr.below b1 Xr.lt;have R0:=(r0.below hb).below b1;have R1:=(r1.below hb).below b1;have R3:=(r3.below hb).below b1;have B1:=hb.trans (b1.mono hb.size);clear r0 r1 r3 b1;obtain ⟨y0,y1,y2,y3⟩:=Y1.cells4;obtain ⟨e0,e1,e2,e3,e4,e5,e6,e7,e8,e9,e10,e11,e12⟩:=X1.cells13;have zy:=Y1.lt;have zx:=X1.lt;clear e0 e3 e5 e6 e7 e8 e9 e10 e11;cases hM:aW ss cs bs
     . skip
       go_wp2_with fail
       generalize wr.alloc (.cells #[.slice a0 ss.length c0,.slice a1 cs.length c1,.bool f,.slice a3 bs.length c3] 78)=w1 at X1 Y1 R0 R1 R3 B1 y0 y1 y2 y3 e1 e2 e4 e12 zy zx ⊢;refine wp_region_held_drew (S:=fun w'=>w'.cell? ⟨wr.heap.size,0,none⟩=some (.slice a0 ss.length c0)/\w'.cell? ⟨wr.heap.size,1,none⟩=some (.slice a1 cs.length c1)/\w'.cell? ⟨wr.heap.size,2,none⟩=some (.bool f)/\w'.cell? ⟨wr.heap.size,3,none⟩=some (.slice a3 bs.length c3)/\w'.cell? ⟨w.heap.size,1,none⟩=some (.int .i64 x.n)/\w'.cell? ⟨w.heap.size,2,none⟩=some (.int .i64 x.s)) (by kernel_rfl) ?_ (fun uF=>?_)
       . exact ⟨y0,y1,y2,y3,e1,e2⟩
       refine ab 0 uF ?_
       refine au (i:=1) (by kernel_rfl) rfl (by kernel_rfl) (fun K hK=>?_)
       go_simp
       refine (bg _ E _ _ _ _ _ _ _ _ _ ss cs f bs R0.drew R1.drew R3.drew hwm).mono ?_
       rintro e w2 ⟨rfl,b2⟩;rw [hM];have b2':Below w1.heap.size w1 w2:=(Below.refl w1.heap.size w1).drew.trans b2;clear b2;go_wp2_with fail
       clear uF;refine hK.out _ _ ?_ (fun uF=>?_)
       . exact ⟨(b2'.cell (p:=⟨wr.heap.size,0,none⟩) zy).trans y0,(b2'.cell (p:=⟨wr.heap.size,1,none⟩) zy).trans y1,(b2'.cell (p:=⟨wr.heap.size,2,none⟩) zy).trans y2,(b2'.cell (p:=⟨wr.heap.size,3,none⟩) zy).trans y3,(b2'.cell (p:=⟨w.heap.size,1,none⟩) zx).trans e1,(b2'.cell (p:=⟨w.heap.size,2,none⟩) zx).trans e2⟩
       clear hK K;refine ab 2 uF ?_
       refine ab 3 uF ?_
       refine ao 4 uF ?_
       refine ao 5 uF ?_
       refine ao 6 uF ?_
       refine ao 7 uF ?_
       refine ao 8 uF ?_
       refine fA (i:=9) (by kernel_rfl) rfl (by kernel_rfl) uF ?_
       simp only [Act.put,List.setIfInBounds_toArray,List.set_cons_zero,List.set_cons_succ]
       refine ao 10 uF ?_
       refine ab 11 uF ?_
       refine wpAnyH_done (by kernel_rfl) ?_ _
       clear uF;have HB:=aa (hA.trans ((B1.trans (b2'.mono B1.size)).mono hA.size));go_wp2
       go_ret
       exact ⟨ag (by rw [show bS x ms=false from (by unfold bS;rw [fG HDJ.out (by unfold cV;simp [hM])];rfl)]),HB.out⟩
     by_cases hS:(ss.length:Int)=6+x.s
     . have hS1:((ss.length:Int)==6+x.s)=true:=by simpa using hS
       have hS2:((ss.length:Int) !=6+x.s)=false:=by simpa using hS
       have HS:=aa hS;clear hS;cases f
       . skip
         go_wp2_with fail
         generalize wr.alloc (.cells #[.slice a0 ss.length c0,.slice a1 cs.length c1,.bool false,.slice a3 bs.length c3] 78)=w1 at X1 Y1 R0 R1 R3 B1 y0 y1 y2 y3 e1 e2 e4 e12 zy zx ⊢;refine wp_region_held_drew (S:=fun w'=>w'.cell? ⟨wr.heap.size,0,none⟩=some (.slice a0 ss.length c0)/\w'.cell? ⟨wr.heap.size,1,none⟩=some (.slice a1 cs.length c1)/\w'.cell? ⟨wr.heap.size,2,none⟩=some (.bool false)/\w'.cell? ⟨wr.heap.size,3,none⟩=some (.slice a3 bs.length c3)/\w'.cell? ⟨w.heap.size,1,none⟩=some (.int .i64 x.n)/\w'.cell? ⟨w.heap.size,2,none⟩=some (.int .i64 x.s)) (by kernel_rfl) ?_ (fun uF=>?_)
         . exact ⟨y0,y1,y2,y3,e1,e2⟩
         refine ab 0 uF ?_
         refine au (i:=1) (by kernel_rfl) rfl (by kernel_rfl) (fun K hK=>?_)
         go_simp
         refine (bg _ E _ _ _ _ _ _ _ _ _ ss cs false bs R0.drew R1.drew R3.drew hwm).mono ?_
         rintro e w2 ⟨rfl,b2⟩;rw [hM];have b2':Below w1.heap.size w1 w2:=(Below.refl w1.heap.size w1).drew.trans b2;clear b2;go_wp2_with fail
         clear uF;refine hK.out _ _ ?_ (fun uF=>?_)
         . exact ⟨(b2'.cell (p:=⟨wr.heap.size,0,none⟩) zy).trans y0,(b2'.cell (p:=⟨wr.heap.size,1,none⟩) zy).trans y1,(b2'.cell (p:=⟨wr.heap.size,2,none⟩) zy).trans y2,(b2'.cell (p:=⟨wr.heap.size,3,none⟩) zy).trans y3,(b2'.cell (p:=⟨w.heap.size,1,none⟩) zx).trans e1,(b2'.cell (p:=⟨w.heap.size,2,none⟩) zx).trans e2⟩
         clear hK K;refine ab 2 uF ?_
         refine ab 3 uF ?_
         refine ab 4 uF ?_
         refine ab 5 uF ?_
         refine ab 6 uF ?_
         refine ab 7 uF ?_
         refine ab 8 uF ?_
         refine au (i:=9) (by kernel_rfl) rfl (by kernel_rfl) (fun K hK=>?_)
         go_simp
         refine (dX _ x.n x.s ⟨g3,g4⟩).mono ?_
         rintro e w3 ⟨rfl,b3⟩;have b3':Below w1.heap.size w1 w3:=Below.andThen b2' b3;clear b3;go_wp2_with fail
         clear uF;refine hK.out _ _ ?_ (fun uF=>?_)
         . exact ⟨(b3'.cell (p:=⟨wr.heap.size,0,none⟩) zy).trans y0,(b3'.cell (p:=⟨wr.heap.size,1,none⟩) zy).trans y1,(b3'.cell (p:=⟨wr.heap.size,2,none⟩) zy).trans y2,(b3'.cell (p:=⟨wr.heap.size,3,none⟩) zy).trans y3,(b3'.cell (p:=⟨w.heap.size,1,none⟩) zx).trans e1,(b3'.cell (p:=⟨w.heap.size,2,none⟩) zx).trans e2⟩
         clear hK K;refine ab 10 uF ?_
         refine ab 11 uF ?_
         refine wpAnyH_done (by kernel_rfl) ?_ _
         clear uF;have n0:=(b3'.cell (p:=⟨w.heap.size,4,none⟩) zx).trans e4;have n1:=(b3'.cell (p:=⟨w.heap.size,12,none⟩) zx).trans e12;have n2:=(b3'.cell (p:=⟨wr.heap.size,2,none⟩) zy).trans y2;have HB:=aa (B1.trans (b3'.mono B1.size));have hat:cV x j (ss,cs,false,bs)=true:=(by unfold cV;simp [hM,HS.out]);go_wp2
         go_roundw
         case rel=>exact ⟨j+1,by omega,by go_num,fun q m hq hm'=>by
          rcases Nat.lt_or_ge q j with h|h
          . exact hall q m h hm'
          obtain rfl:q=j:=by omega
          rw [HDJ.out] at hm';cases hm';exact hat,HB.out⟩
         case measure=>simp [intOf];omega
       by_cases hL:(j:Int)=x.lost
       . have hL1:((j:Int)==x.lost)=true:=by simpa using hL
         have hL2:((j:Int) !=x.lost)=false:=by simpa using hL
         have HL:=aa hL;clear hL;go_wp2_with fail
         generalize wr.alloc (.cells #[.slice a0 ss.length c0,.slice a1 cs.length c1,.bool true,.slice a3 bs.length c3] 78)=w1 at X1 Y1 R0 R1 R3 B1 y0 y1 y2 y3 e1 e2 e4 e12 zy zx ⊢;refine wp_region_held_drew (S:=fun w'=>w'.cell? ⟨wr.heap.size,0,none⟩=some (.slice a0 ss.length c0)/\w'.cell? ⟨wr.heap.size,1,none⟩=some (.slice a1 cs.length c1)/\w'.cell? ⟨wr.heap.size,2,none⟩=some (.bool true)/\w'.cell? ⟨wr.heap.size,3,none⟩=some (.slice a3 bs.length c3)/\w'.cell? ⟨w.heap.size,1,none⟩=some (.int .i64 x.n)/\w'.cell? ⟨w.heap.size,2,none⟩=some (.int .i64 x.s)) (by kernel_rfl) ?_ (fun uF=>?_)
         . exact ⟨y0,y1,y2,y3,e1,e2⟩
         refine ab 0 uF ?_
         refine au (i:=1) (by kernel_rfl) rfl (by kernel_rfl) (fun K hK=>?_)
         go_simp
         refine (bg _ E _ _ _ _ _ _ _ _ _ ss cs true bs R0.drew R1.drew R3.drew hwm).mono ?_
         rintro e w2 ⟨rfl,b2⟩;rw [hM];have b2':Below w1.heap.size w1 w2:=(Below.refl w1.heap.size w1).drew.trans b2;clear b2;go_wp2_with fail
         clear uF;refine hK.out _ _ ?_ (fun uF=>?_)
         . exact ⟨(b2'.cell (p:=⟨wr.heap.size,0,none⟩) zy).trans y0,(b2'.cell (p:=⟨wr.heap.size,1,none⟩) zy).trans y1,(b2'.cell (p:=⟨wr.heap.size,2,none⟩) zy).trans y2,(b2'.cell (p:=⟨wr.heap.size,3,none⟩) zy).trans y3,(b2'.cell (p:=⟨w.heap.size,1,none⟩) zx).trans e1,(b2'.cell (p:=⟨w.heap.size,2,none⟩) zx).trans e2⟩
         clear hK K;refine ab 2 uF ?_
         refine ab 3 uF ?_
         refine ab 4 uF ?_
         refine ab 5 uF ?_
         refine ab 6 uF ?_
         refine ab 7 uF ?_
         refine ab 8 uF ?_
         refine au (i:=9) (by kernel_rfl) rfl (by kernel_rfl) (fun K hK=>?_)
         go_simp
         refine (dX _ x.n x.s ⟨g3,g4⟩).mono ?_
         rintro e w3 ⟨rfl,b3⟩;have b3':Below w1.heap.size w1 w3:=Below.andThen b2' b3;clear b3;go_wp2_with fail
         clear uF;refine hK.out _ _ ?_ (fun uF=>?_)
         . exact ⟨(b3'.cell (p:=⟨wr.heap.size,0,none⟩) zy).trans y0,(b3'.cell (p:=⟨wr.heap.size,1,none⟩) zy).trans y1,(b3'.cell (p:=⟨wr.heap.size,2,none⟩) zy).trans y2,(b3'.cell (p:=⟨wr.heap.size,3,none⟩) zy).trans y3,(b3'.cell (p:=⟨w.heap.size,1,none⟩) zx).trans e1,(b3'.cell (p:=⟨w.heap.size,2,none⟩) zx).trans e2⟩
         clear hK K;refine ab 10 uF ?_
         refine ab 11 uF ?_
         refine wpAnyH_done (by kernel_rfl) ?_ _
         clear uF;have n0:=(b3'.cell (p:=⟨w.heap.size,4,none⟩) zx).trans e4;have n1:=(b3'.cell (p:=⟨w.heap.size,12,none⟩) zx).trans e12;have n2:=(b3'.cell (p:=⟨wr.heap.size,2,none⟩) zy).trans y2;have HB:=aa (B1.trans (b3'.mono B1.size));have hat:cV x j (ss,cs,true,bs)=true:=(by unfold cV;simp [hM,HS.out,HL.out]);go_wp2
         go_roundw
         case rel=>exact ⟨j+1,by omega,by go_num,fun q m hq hm'=>by
          rcases Nat.lt_or_ge q j with h|h
          . exact hall q m h hm'
          obtain rfl:q=j:=by omega
          rw [HDJ.out] at hm';cases hm';exact hat,HB.out⟩
         case measure=>simp [intOf];omega
       have hL1:((j:Int)==x.lost)=false:=by simpa using hL
       have hL2:((j:Int) !=x.lost)=true:=by simpa using hL
       have HL:=aa hL;clear hL;cases hBr:x.uH
       . rw [hBr] at e12
         go_wp2_with fail
         generalize wr.alloc (.cells #[.slice a0 ss.length c0,.slice a1 cs.length c1,.bool true,.slice a3 bs.length c3] 78)=w1 at X1 Y1 R0 R1 R3 B1 y0 y1 y2 y3 e1 e2 e4 e12 zy zx ⊢;refine wp_region_held_drew (S:=fun w'=>w'.cell? ⟨wr.heap.size,0,none⟩=some (.slice a0 ss.length c0)/\w'.cell? ⟨wr.heap.size,1,none⟩=some (.slice a1 cs.length c1)/\w'.cell? ⟨wr.heap.size,2,none⟩=some (.bool true)/\w'.cell? ⟨wr.heap.size,3,none⟩=some (.slice a3 bs.length c3)/\w'.cell? ⟨w.heap.size,1,none⟩=some (.int .i64 x.n)/\w'.cell? ⟨w.heap.size,2,none⟩=some (.int .i64 x.s)) (by kernel_rfl) ?_ (fun uF=>?_)
         . exact ⟨y0,y1,y2,y3,e1,e2⟩
         refine ab 0 uF ?_
         refine au (i:=1) (by kernel_rfl) rfl (by kernel_rfl) (fun K hK=>?_)
         go_simp
         refine (bg _ E _ _ _ _ _ _ _ _ _ ss cs true bs R0.drew R1.drew R3.drew hwm).mono ?_
         rintro e w2 ⟨rfl,b2⟩;rw [hM];have b2':Below w1.heap.size w1 w2:=(Below.refl w1.heap.size w1).drew.trans b2;clear b2;go_wp2_with fail
         clear uF;refine hK.out _ _ ?_ (fun uF=>?_)
         . exact ⟨(b2'.cell (p:=⟨wr.heap.size,0,none⟩) zy).trans y0,(b2'.cell (p:=⟨wr.heap.size,1,none⟩) zy).trans y1,(b2'.cell (p:=⟨wr.heap.size,2,none⟩) zy).trans y2,(b2'.cell (p:=⟨wr.heap.size,3,none⟩) zy).trans y3,(b2'.cell (p:=⟨w.heap.size,1,none⟩) zx).trans e1,(b2'.cell (p:=⟨w.heap.size,2,none⟩) zx).trans e2⟩
         clear hK K;refine ab 2 uF ?_
         refine ab 3 uF ?_
         refine ab 4 uF ?_
         refine ab 5 uF ?_
         refine ab 6 uF ?_
         refine ab 7 uF ?_
         refine ab 8 uF ?_
         refine au (i:=9) (by kernel_rfl) rfl (by kernel_rfl) (fun K hK=>?_)
         go_simp
         refine (dX _ x.n x.s ⟨g3,g4⟩).mono ?_
         rintro e w3 ⟨rfl,b3⟩;have b3':Below w1.heap.size w1 w3:=Below.andThen b2' b3;clear b3;go_wp2_with fail
         clear uF;refine hK.out _ _ ?_ (fun uF=>?_)
         . exact ⟨(b3'.cell (p:=⟨wr.heap.size,0,none⟩) zy).trans y0,(b3'.cell (p:=⟨wr.heap.size,1,none⟩) zy).trans y1,(b3'.cell (p:=⟨wr.heap.size,2,none⟩) zy).trans y2,(b3'.cell (p:=⟨wr.heap.size,3,none⟩) zy).trans y3,(b3'.cell (p:=⟨w.heap.size,1,none⟩) zx).trans e1,(b3'.cell (p:=⟨w.heap.size,2,none⟩) zx).trans e2⟩
         clear hK K;refine ab 10 uF ?_
         refine ab 11 uF ?_
         refine wpAnyH_done (by kernel_rfl) ?_ _
         clear uF;have n0:=(b3'.cell (p:=⟨w.heap.size,4,none⟩) zx).trans e4;have n1:=(b3'.cell (p:=⟨w.heap.size,12,none⟩) zx).trans e12;have n2:=(b3'.cell (p:=⟨wr.heap.size,2,none⟩) zy).trans y2;have HB:=aa (hA.trans ((B1.trans (b3'.mono B1.size)).mono hA.size));go_wp2
         go_ret
         exact ⟨ag (by rw [show bS x ms=false from (by unfold bS;rw [fG HDJ.out (by unfold cV;simp [HL.out,hBr])];rfl)]),HB.out⟩
       rw [hBr] at e12;go_wp2_with fail
       generalize wr.alloc (.cells #[.slice a0 ss.length c0,.slice a1 cs.length c1,.bool true,.slice a3 bs.length c3] 78)=w1 at X1 Y1 R0 R1 R3 B1 y0 y1 y2 y3 e1 e2 e4 e12 zy zx ⊢;refine wp_region_held_drew (S:=fun w'=>w'.cell? ⟨wr.heap.size,0,none⟩=some (.slice a0 ss.length c0)/\w'.cell? ⟨wr.heap.size,1,none⟩=some (.slice a1 cs.length c1)/\w'.cell? ⟨wr.heap.size,2,none⟩=some (.bool true)/\w'.cell? ⟨wr.heap.size,3,none⟩=some (.slice a3 bs.length c3)/\w'.cell? ⟨w.heap.size,1,none⟩=some (.int .i64 x.n)/\w'.cell? ⟨w.heap.size,2,none⟩=some (.int .i64 x.s)) (by kernel_rfl) ?_ (fun uF=>?_)
       . exact ⟨y0,y1,y2,y3,e1,e2⟩
       refine ab 0 uF ?_
       refine au (i:=1) (by kernel_rfl) rfl (by kernel_rfl) (fun K hK=>?_)
       go_simp
       refine (bg _ E _ _ _ _ _ _ _ _ _ ss cs true bs R0.drew R1.drew R3.drew hwm).mono ?_
       rintro e w2 ⟨rfl,b2⟩;rw [hM];have b2':Below w1.heap.size w1 w2:=(Below.refl w1.heap.size w1).drew.trans b2;clear b2;go_wp2_with fail
       clear uF;refine hK.out _ _ ?_ (fun uF=>?_)
       . exact ⟨(b2'.cell (p:=⟨wr.heap.size,0,none⟩) zy).trans y0,(b2'.cell (p:=⟨wr.heap.size,1,none⟩) zy).trans y1,(b2'.cell (p:=⟨wr.heap.size,2,none⟩) zy).trans y2,(b2'.cell (p:=⟨wr.heap.size,3,none⟩) zy).trans y3,(b2'.cell (p:=⟨w.heap.size,1,none⟩) zx).trans e1,(b2'.cell (p:=⟨w.heap.size,2,none⟩) zx).trans e2⟩
       clear hK K;refine ab 2 uF ?_
       refine ab 3 uF ?_
       refine ab 4 uF ?_
       refine ab 5 uF ?_
       refine ab 6 uF ?_
       refine ab 7 uF ?_
       refine ab 8 uF ?_
       refine au (i:=9) (by kernel_rfl) rfl (by kernel_rfl) (fun K hK=>?_)
       go_simp
       refine (dX _ x.n x.s ⟨g3,g4⟩).mono ?_
       rintro e w3 ⟨rfl,b3⟩;have b3':Below w1.heap.size w1 w3:=Below.andThen b2' b3;clear b3;go_wp2_with fail
       clear uF;refine hK.out _ _ ?_ (fun uF=>?_)
       . exact ⟨(b3'.cell (p:=⟨wr.heap.size,0,none⟩) zy).trans y0,(b3'.cell (p:=⟨wr.heap.size,1,none⟩) zy).trans y1,(b3'.cell (p:=⟨wr.heap.size,2,none⟩) zy).trans y2,(b3'.cell (p:=⟨wr.heap.size,3,none⟩) zy).trans y3,(b3'.cell (p:=⟨w.heap.size,1,none⟩) zx).trans e1,(b3'.cell (p:=⟨w.heap.size,2,none⟩) zx).trans e2⟩
       clear hK K;refine ab 10 uF ?_
       refine ab 11 uF ?_
       refine wpAnyH_done (by kernel_rfl) ?_ _
       clear uF;have n0:=(b3'.cell (p:=⟨w.heap.size,4,none⟩) zx).trans e4;have n1:=(b3'.cell (p:=⟨w.heap.size,12,none⟩) zx).trans e12;have n2:=(b3'.cell (p:=⟨wr.heap.size,2,none⟩) zy).trans y2;have HB:=aa (B1.trans (b3'.mono B1.size));have hat:cV x j (ss,cs,true,bs)=true:=(by unfold cV;simp [hM,HS.out,hBr]);go_wp2
       go_roundw
       case rel=>exact ⟨j+1,by omega,by go_num,fun q m hq hm'=>by
        rcases Nat.lt_or_ge q j with h|h
        . exact hall q m h hm'
        obtain rfl:q=j:=by omega
        rw [HDJ.out] at hm';cases hm';exact hat,HB.out⟩
       case measure=>simp [intOf];omega
     have hS1:((ss.length:Int)==6+x.s)=false:=by simpa using hS
     have hS2:((ss.length:Int) !=6+x.s)=true:=by simpa using hS
     have HS:=aa hS;clear hS;go_wp2_with fail
     generalize wr.alloc (.cells #[.slice a0 ss.length c0,.slice a1 cs.length c1,.bool f,.slice a3 bs.length c3] 78)=w1 at X1 Y1 R0 R1 R3 B1 y0 y1 y2 y3 e1 e2 e4 e12 zy zx ⊢;refine wp_region_held_drew (S:=fun w'=>w'.cell? ⟨wr.heap.size,0,none⟩=some (.slice a0 ss.length c0)/\w'.cell? ⟨wr.heap.size,1,none⟩=some (.slice a1 cs.length c1)/\w'.cell? ⟨wr.heap.size,2,none⟩=some (.bool f)/\w'.cell? ⟨wr.heap.size,3,none⟩=some (.slice a3 bs.length c3)/\w'.cell? ⟨w.heap.size,1,none⟩=some (.int .i64 x.n)/\w'.cell? ⟨w.heap.size,2,none⟩=some (.int .i64 x.s)) (by kernel_rfl) ?_ (fun uF=>?_)
     . exact ⟨y0,y1,y2,y3,e1,e2⟩
     refine ab 0 uF ?_
     refine au (i:=1) (by kernel_rfl) rfl (by kernel_rfl) (fun K hK=>?_)
     go_simp
     refine (bg _ E _ _ _ _ _ _ _ _ _ ss cs f bs R0.drew R1.drew R3.drew hwm).mono ?_
     rintro e w2 ⟨rfl,b2⟩;rw [hM];have b2':Below w1.heap.size w1 w2:=(Below.refl w1.heap.size w1).drew.trans b2;clear b2;go_wp2_with fail
     clear uF;refine hK.out _ _ ?_ (fun uF=>?_)
     . exact ⟨(b2'.cell (p:=⟨wr.heap.size,0,none⟩) zy).trans y0,(b2'.cell (p:=⟨wr.heap.size,1,none⟩) zy).trans y1,(b2'.cell (p:=⟨wr.heap.size,2,none⟩) zy).trans y2,(b2'.cell (p:=⟨wr.heap.size,3,none⟩) zy).trans y3,(b2'.cell (p:=⟨w.heap.size,1,none⟩) zx).trans e1,(b2'.cell (p:=⟨w.heap.size,2,none⟩) zx).trans e2⟩
     clear hK K;refine ab 2 uF ?_
     refine ab 3 uF ?_
     refine ab 4 uF ?_
     refine ab 5 uF ?_
     refine ab 6 uF ?_
     refine ab 7 uF ?_
     refine ab 8 uF ?_
     refine au (i:=9) (by kernel_rfl) rfl (by kernel_rfl) (fun K hK=>?_)
     go_simp
     refine (dX _ x.n x.s ⟨g3,g4⟩).mono ?_
     rintro e w3 ⟨rfl,b3⟩;have b3':Below w1.heap.size w1 w3:=Below.andThen b2' b3;clear b3;go_wp2_with fail
     clear uF;refine hK.out _ _ ?_ (fun uF=>?_)
     . exact ⟨(b3'.cell (p:=⟨wr.heap.size,0,none⟩) zy).trans y0,(b3'.cell (p:=⟨wr.heap.size,1,none⟩) zy).trans y1,(b3'.cell (p:=⟨wr.heap.size,2,none⟩) zy).trans y2,(b3'.cell (p:=⟨wr.heap.size,3,none⟩) zy).trans y3,(b3'.cell (p:=⟨w.heap.size,1,none⟩) zx).trans e1,(b3'.cell (p:=⟨w.heap.size,2,none⟩) zx).trans e2⟩
     clear hK K;refine ab 10 uF ?_
     refine ab 11 uF ?_
     refine wpAnyH_done (by kernel_rfl) ?_ _
     clear uF;have n0:=(b3'.cell (p:=⟨w.heap.size,4,none⟩) zx).trans e4;have n1:=(b3'.cell (p:=⟨w.heap.size,12,none⟩) zx).trans e12;have n2:=(b3'.cell (p:=⟨wr.heap.size,2,none⟩) zy).trans y2;have HB:=aa (hA.trans ((B1.trans (b3'.mono B1.size)).mono hA.size));go_wp2
     go_ret
     exact ⟨ag (by rw [show bS x ms=false from (by unfold bS;rw [fG HDJ.out (by unfold cV;simp [HS.out])];rfl)]),HB.out⟩
   have e:j=nm:=by omega
   subst e;have hAll:ku (cV x) ms=true:=dj.2 (fun q m hq=>hall q m (by have:=(List.getElem?_eq_some_iff.1 hq).1;omega) hq);have HB:=aa (hA.trans (hb.mono hA.size));have hR:bS x ms=true:=by unfold bS;rw [hAll,hl];simpa using HN.out
   go_wp2
   go_ret
   exact ⟨ag hR.symm,HB.out⟩
 have hN1:((nm:Int)==x.n)=false:=by simpa using hN
 have hN2:((nm:Int) !=x.n)=true:=by simpa using hN
 have hR:bS x ms=false:=by unfold bS;rw [hl];simp [hN]
 have HR:=aa hR;clear hN hR;go_enter Tryz.func131,Tryz.ntmps131
 go_wp2
 go_ret
 exact ⟨ag HR.out.symm,hA⟩
end Go.Proofs.YtejokiafgbjdaaaGreat
