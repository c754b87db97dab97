/-
 The walk of sameDirty of package laws: entries that read alike. Condition: they weigh at most 2097152.
-/
import Derived.Test.YtgjomldcnjjpaaaGreatRowArrsSq5
import Derived.Deep.RegionHeld3

set_option maxRecDepth 100000
set_option maxHeartbeats 8000000
set_option linter.unusedSimpArgs false

namespace Go.Proofs.YtgjomldcnjjpaaaGreat
open Go.RowKit

def Ty.In (t:Ty) (w:World) (lo hi:Nat) (vs:List Value) (d:t.D):Prop:=∃fp,t.rd w vs d fp/\∀b∈fp,lo<=b/\b<hi
theorem Ty.In.rd {t:Ty} {w:World} {lo hi:Nat} {vs:List Value} {d:t.D} (h:t.In w lo hi vs d):t.Rd w vs d:=by
 obtain ⟨fp,h,_⟩:=h;exact ⟨fp,h⟩
theorem Ty.Own.toIn {t:Ty} {w:World} {lo hi:Nat} {vs:List Value} {d:t.D} (h:t.Own w lo hi vs d):t.In w lo hi vs d:=by
 obtain ⟨fp,h,_,hr⟩:=h;exact ⟨fp,t.owRd h,hr⟩
theorem Ty.Mine.toIn {t:Ty} {w:World} {lo hi:Nat} {vs:List Value} {d:t.D} {fp:List Nat} (h:t.Mine w vs d fp) (hr:∀b∈fp,lo<=b/\b<hi):t.In w lo hi vs d:=⟨fp,t.owRd h.1,hr⟩
theorem Ty.In.but {t:Ty} {w w':World} {lo hi l h':Nat} {vs:List Value} {d:t.D} (h:t.In w lo hi vs d) (hb:But l h' w w') (hd:hi<=l∨h'<=lo):t.In w' lo hi vs d:=by
 obtain ⟨fp,h,hr⟩:=h;exact ⟨fp,t.rdKept h (fun b hb'=>hb.block b (t.rdLt h b hb') (by have:=hr b hb';omega)) hb.size,hr⟩
theorem Ty.In.below {t:Ty} {w w':World} {lo hi:Nat} {vs:List Value} {d:t.D} (h:t.In w lo hi vs d) (hb:Below w.heap.size w w'):t.In w' lo hi vs d:=by
 obtain ⟨fp,h,hr⟩:=h;exact ⟨fp,t.rdKept h (fun b hb'=>hb.block b (t.rdLt h b hb')) hb.size,hr⟩
theorem Ty.In.under {t:Ty} {w w':World} {lo hi N:Nat} {vs:List Value} {d:t.D} (h:t.In w lo hi vs d) (hb:Below N w w') (hN:hi<=N):t.In w' lo hi vs d:=by
 obtain ⟨fp,h,hr⟩:=h;exact ⟨fp,t.rdKept h (fun b hb'=>hb.block b (by have:=hr b hb';omega)) hb.size,hr⟩
theorem Ty.In.turned {t:Ty} {w w':World} {lo hi:Nat} {vs:List Value} {d:t.D} {fq:List Nat} (h:t.In w lo hi vs d) (ht:aA fq w w') (hd:∀b∈fq,b<lo∨hi<=b):t.In w' lo hi vs d:=by
 obtain ⟨fp,h,hr⟩:=h;exact ⟨fp,t.rdKept h (fun b hb'=>ht.block b (t.rdLt h b hb') (fun hm=>by have h1:=hr b hb';have h2:=hd b hm;omega)) ht.size,hr⟩
theorem Ty.In.widen {t:Ty} {w:World} {lo hi lo' hi':Nat} {vs:List Value} {d:t.D} (h:t.In w lo hi vs d) (h1:lo'<=lo) (h2:hi<=hi'):t.In w lo' hi' vs d:=by
 obtain ⟨fp,h,hr⟩:=h;exact ⟨fp,h,fun b hb=>by have:=hr b hb;omega⟩
theorem nil_in {t:Ty} {E:TypeId} (w:World) (lo hi:Nat) (a:Addr):(ce t E).In w lo hi [.slice (some a) 0 0] []:=⟨[],⟨some a,0,rfl,Nat.le_refl _,by omega,.inl ⟨rfl,rfl,fun h=>by cases h⟩⟩,by simp⟩
theorem pZ {w:World} {E:TypeId} {lo hi:Nat} {v0 v1 v3:Value} {f:Bool} {ss:List (List Int)} {cs:List (Int×List Int)} {bs:List Int} (h:(cu E).Own w lo hi [v0,v1,.bool f,v3] (ss,cs,f,bs)):
 ∃f0 f1 f3,aU.Mine w [v0] ss f0/\(aW E).Mine w [v1] cs f1/\aD.Mine w [v3] bs f3/\(∀b∈f0,lo<=b/\b<hi/\b∉f1/\b∉f3)/\(∀b∈f1,lo<=b/\b<hi/\b∉f0/\b∉f3)/\∀b∈f3,lo<=b/\b<hi/\b∉f0/\b∉f1:=by
 obtain ⟨fp,h,hr⟩:=h.mine;obtain ⟨f0,g1,rfl,m0,h,d0⟩:=eK (t:=aU) (u:=er (aW E) (er fU aD)) (vs:=[_]) (us:=[_,_,_]) rfl h;obtain ⟨f1,g2,rfl,m1,h,d1⟩:=eK (t:=aW E) (u:=er fU aD) (vs:=[_]) (us:=[_,_]) rfl h;obtain ⟨fb,f3,rfl,_,m3,_⟩:=eK (t:=fU) (u:=aD) (vs:=[_]) (us:=[_]) rfl h;refine ⟨f0,f1,f3,m0,m1,m3,fun b hb=>?_,fun b hb=>?_,fun b hb=>?_⟩
 . have h1:=hr b (by simp [hb])
   have h2:=d0 b hb;simp at h2
   exact ⟨h1.1,h1.2,h2.1,h2.2.2⟩
 . have h1:=hr b (by simp [hb])
   have h2:=d1 b hb;simp at h2
   refine ⟨h1.1,h1.2,fun hm=>?_,h2.2⟩
   have:=d0 b hm;simp [hb] at this
 have h1:=hr b (by simp [hb]);refine ⟨h1.1,h1.2,fun hm=>?_,fun hm=>?_⟩
 . have:=d0 b hm
   simp [hb] at this
 have:=d1 b hm;simp [hb] at this
theorem xf {w:World} {a:Option Addr} {n cap j:Nat} {d:List (List Int)} (h:aU.Rd w [.slice a n cap] d) (hj:j<n):
 ∃b off x av cv,a=some ⟨b,off,none⟩/\d[j]?=some x/\w.cell? ⟨b,off+j,none⟩=some (.slice av x.length cv)/\aJ .i64 w av x:=by
 have hl:=(ag h).1;rcases hJ rfl h with h0|⟨b,off,ha,_,hc⟩
 . omega
 have hx:=List.getElem?_eq_getElem (show j<d.length by omega);obtain ⟨v,hv,hr⟩:=hc j _ hx;obtain ⟨av,cv,rfl⟩:=aC hr;exact ⟨b,off,_,av,cv,ha,hx,hv,(aR hr).1⟩
theorem uk {E:TypeId} {w:World} {a:Option Addr} {n cap j:Nat} {d:List (Int×List Int)} (h:(aW E).Rd w [.slice a n cap] d) (hj:j<n):
 ∃b off x0 x1 av cv,a=some ⟨b,off,none⟩/\d[j]?=some (x0,x1)/\w.cell? ⟨b,off+j*2,none⟩=some (.int .i64 x0)/\w.cell? ⟨b,off+j*2+1,none⟩=some (.slice av x1.length cv)/\aJ .i64 w av x1:=by
 have hl:=(ag h).1;rcases cW rfl h with h0|⟨b,off,ha,_,hc⟩
 . omega
 have hx:=List.getElem?_eq_getElem (show j<d.length by omega);obtain ⟨v0,v1,hv0,hv1,hr⟩:=hc j _ hx;obtain ⟨rfl,hr1⟩:=eL hr;obtain ⟨av,cv,rfl⟩:=aC hr1;exact ⟨b,off,d[j].1,d[j].2,av,cv,ha,hx,hv0,hv1,(aR hr1).1⟩
theorem rb (w:World) (E E':TypeId) (a0 a1 a3 b0 b1 b3:Option Addr) (n0 c0 n1 c1 n3 c3 p0 d0 p1 d1 p3 d3:Nat) (ss:List (List Int)) (cs:List (Int×List Int)) (f:Bool) (bs:List Int)
 (h0:aU.Rd w [.slice a0 n0 c0] ss) (h1:(aW E).Rd w [.slice a1 n1 c1] cs) (h3:aD.Rd w [.slice a3 n3 c3] bs)
 (g0:aU.Rd w [.slice b0 p0 d0] ss) (g1:(aW E').Rd w [.slice b1 p1 d1] cs) (g3:aD.Rd w [.slice b3 p3 d3] bs) (hw:aM (ss,cs,f,bs)<=2097152):
 Calls Tryz.prog 72 #[.agg #[.slice a0 n0 c0,.slice a1 n1 c1,.bool f,.slice a3 n3 c3],.agg #[.slice b0 p0 d0,.slice b1 p1 d1,.bool f,.slice b3 p3 d3]] w fun e w'=>e=.returned (.bool true)/\Below w.heap.size w w':=by
 have hA:Below w.heap.size w ((w.alloc (.cells #[.slice a0 n0 c0,.slice a1 n1 c1,.bool f,.slice a3 n3 c3] 55)).alloc (.cells #[.slice b0 p0 d0,.slice b1 p1 d1,.bool f,.slice b3 p3 d3] 55)):=((Below.refl _ _).alloc (Nat.le_refl _) _).alloc (by simp) _;have xa:Box ((w.alloc (.cells #[.slice a0 n0 c0,.slice a1 n1 c1,.bool f,.slice a3 n3 c3] 55)).alloc (.cells #[.slice b0 p0 d0,.slice b1 p1 d1,.bool f,.slice b3 p3 d3] 55)) w.heap.size 55 _:=(Box.new w 55 #[.slice a0 n0 c0,.slice a1 n1 c1,.bool f,.slice a3 n3 c3]).alloc _;have xb:Box ((w.alloc (.cells #[.slice a0 n0 c0,.slice a1 n1 c1,.bool f,.slice a3 n3 c3] 55)).alloc (.cells #[.slice b0 p0 d0,.slice b1 p1 d1,.bool f,.slice b3 p3 d3] 55)) (w.heap.size+1) 55 #[.slice b0 p0 d0,.slice b1 p1 d1,.bool f,.slice b3 p3 d3]:=by
  have:=Box.new (w.alloc (.cells #[.slice a0 n0 c0,.slice a1 n1 c1,.bool f,.slice a3 n3 c3] 55)) 55 #[.slice b0 p0 d0,.slice b1 p1 d1,.bool f,.slice b3 p3 d3];rw [show (w.alloc (.cells #[.slice a0 n0 c0,.slice a1 n1 c1,.bool f,.slice a3 n3 c3] 55)).heap.size=w.heap.size+1 by simp] at this;exact this
 obtain rfl:p0=n0:=(ag g0).1.symm.trans (ag h0).1;obtain rfl:p1=n1:=(ag g1).1.symm.trans (ag h1).1;obtain rfl:p3=n3:=(ag g3).1.symm.trans (ag h3).1;have HM0:=aa (ag h0);have HM1:=aa (ag h1);have h0:=h0.below hA;have h1:=h1.below hA;have h3:=h3.below hA;have g0:=g0.below hA;have g1:=g1.below hA;have g3:=g3.below hA;obtain ⟨r3,l3,_,_⟩:=aR h3;obtain ⟨t3,m3,_,_⟩:=aR g3;have HL3:=aa l3;have HM3:=aa m3;have HW0:Hid (∀x∈ss,x.length<=2097152):=fun x hx=>by
  obtain ⟨j,hj⟩:=List.mem_iff_getElem?.1 hx;have:=eZ hj;unfold aM at hw;dsimp only at hw
  omega
 have HW1:Hid (∀x∈cs,x.2.length<=2097152):=fun x hx=>by
  obtain ⟨j,hj⟩:=List.mem_iff_getElem?.1 hx;have:=cK hj;unfold aM at hw;dsimp only at hw
  omega
 have HW3:Hid (p3<=2097152):=by
  unfold Hid;unfold aM at hw;dsimp only at hw
  omega
 have hbd0:p0<=2097152:=by
  have h9:=HM0.out.1;unfold aM cA at hw;dsimp only at hw
  omega
 have hbd1:p1<=2097152:=by
  have h9:=HM1.out.1;unfold aM aX at hw;dsimp only at hw
  omega
 clear l3 m3 hw;go_enter Tryz.func72,Tryz.ntmps72
 go_wp2_with fail
 generalize hW:(w.alloc (.cells #[.slice a0 p0 c0,.slice a1 p1 c1,.bool f,.slice a3 p3 c3] 55)).alloc (.cells #[.slice b0 p0 d0,.slice b1 p1 d1,.bool f,.slice b3 p3 d3] 55)=W at hA xa xb h0 h1 h3 g0 g1 g3 r3 t3 ⊢;clear hW;refine (eY _ _ _ _ _ _ _ bs bs HL3.out HM3.out r3 t3 HW3.out).mono ?_
 rintro e w1 ⟨rfl,s1⟩;have hd:decide (bs=bs)=true:=by simp
 have HA:=aa hA;have Ha0:Hid (∀v:World,aP W v->v.cell? ⟨w.heap.size,0,none⟩=some (.slice a0 p0 c0)):=fun v s=>(s.cell _).trans (xa.cell 0);have Ha1:Hid (∀v:World,aP W v->v.cell? ⟨w.heap.size,1,none⟩=some (.slice a1 p1 c1)):=fun v s=>(s.cell _).trans (xa.cell 1);have Hb0:Hid (∀v:World,aP W v->v.cell? ⟨w.heap.size+1,0,none⟩=some (.slice b0 p0 d0)):=fun v s=>(s.cell _).trans (xb.cell 0);have Hb1:Hid (∀v:World,aP W v->v.cell? ⟨w.heap.size+1,1,none⟩=some (.slice b1 p1 d1)):=fun v s=>(s.cell _).trans (xb.cell 1);have G0:=aa h0;have G1:=aa h1;have F0:=aa g0;have F1:=aa g1;clear hA xa xb h0 h1 h3 g0 g1 g3 r3 t3 HL3 HM3 HW3;go_wp2_with fail
 go_loopw [5] (fun i wr=>∃j:Nat,j<=p0/\i=.int .i64 j/\aP W wr) (fun i _=>p0-(intOf i).toNat)
 case atStart=>exact ⟨0,Nat.zero_le _,rfl,s1⟩
 obtain ⟨j,hj,rfl,hs⟩:=hrel;clear s1 hd;have ca0:=Ha0.out wr hs;by_cases hlt:j<p0
 . have i1:(0:Int)<=(j:Int):=by omega
   have i2:(j:Int)<(p0:Int):=by omega
   obtain ⟨ga,oa,x,va,na,rfl,hx,hca,hra⟩:=xf (j:=j) G0.out hlt;obtain ⟨gb,ob,x',vb,nb,rfl,hx',hcb,hrb⟩:=xf (j:=j) F0.out hlt;obtain rfl:x=x':=by have:=hx.symm.trans hx';simpa using this
   have lx:x.length<=2097152:=HW0.out _ (List.mem_of_getElem? hx);have Ca:Hid (∀v:World,aP W v->v.cell? ⟨ga,oa+j,none⟩=some (.slice va x.length na)):=fun v s=>(s.cell _).trans hca;have Cb:Hid (∀v:World,aP W v->v.cell? ⟨gb,ob+j,none⟩=some (.slice vb x.length nb)):=fun v s=>(s.cell _).trans hcb;have Ra:=aa hra;have Rb:=aa hrb;have hsd:aP W wr.drew:=hs.drew;have hde:decide (x=x)=true:=by simp
   clear hx hx' hca hcb hra hrb;go_wp2_with fail
   go_region_held3 (fun v=>v.cell? ⟨w.heap.size,0,none⟩=some (.slice (some ⟨ga,oa,none⟩) p0 c0)/\v.cell? ⟨ga,oa+j,none⟩=some (.slice va x.length na)/\v.cell? ⟨w.heap.size+1,0,none⟩=some (.slice (some ⟨gb,ob,none⟩) p0 d0)/\v.cell? ⟨gb,ob+j,none⟩=some (.slice vb x.length nb))
    (first|(with_reducible exact ⟨Ha0.out wa sa,Ca.out wa sa,Hb0.out wa sa,Cb.out wa sa⟩)|(with_reducible exact ⟨Ha0.out wr.drew hsd,Ca.out wr.drew hsd,Hb0.out wr.drew hsd,Cb.out wr.drew hsd⟩)|(with_reducible exact ⟨Ha0.out wr hs,Ca.out wr hs,Hb0.out wr hs,Cb.out wr hs⟩)|go_keep)
    (first|(go_at_call 16;refine (eY _ _ _ _ _ _ _ x x rfl rfl (Ra.out.same hsd) (Rb.out.same hsd) lx).mono ?_;rintro e wa ⟨rfl,sa0⟩;have sa:aP W wa:=hsd.trans sa0;clear sa0))
   go_wp2
   go_roundw
   case rel=>exact ⟨j+1,by omega,by go_num,sa⟩
   case measure=>simp [intOf];omega
 go_wp2_with fail
 go_loopw [6] (fun i wr2=>∃j:Nat,j<=p1/\i=.int .i64 j/\aP W wr2) (fun i _=>p1-(intOf i).toNat)
 case atStart=>exact ⟨0,Nat.zero_le _,rfl,hs⟩
 clear ca0 hlt hj;obtain ⟨i,hi,rfl,hs2⟩:=hrel;have ca1:=Ha1.out wr hs2;by_cases hil:i<p1
 . have i1:(0:Int)<=(i:Int):=by omega
   have i2:(i:Int)<(p1:Int):=by omega
   obtain ⟨ga,oa,x0,x,va,na,rfl,hx,hca0,hca,hra⟩:=uk (j:=i) G1.out hil;obtain ⟨gb,ob,y0,y,vb,nb,rfl,hx',hcb0,hcb,hrb⟩:=uk (j:=i) F1.out hil;obtain ⟨rfl,rfl⟩:x0=y0/\x=y:=by have:=hx.symm.trans hx';simpa using this
   have lx:x.length<=2097152:=HW1.out _ (List.mem_of_getElem? hx);have Ca0:Hid (∀v:World,aP W v->v.cell? ⟨ga,oa+i*2,none⟩=some (.int .i64 x0)):=fun v s=>(s.cell _).trans hca0;have Ca:Hid (∀v:World,aP W v->v.cell? ⟨ga,oa+i*2+1,none⟩=some (.slice va x.length na)):=fun v s=>(s.cell _).trans hca;have Cb0:Hid (∀v:World,aP W v->v.cell? ⟨gb,ob+i*2,none⟩=some (.int .i64 x0)):=fun v s=>(s.cell _).trans hcb0;have Cb:Hid (∀v:World,aP W v->v.cell? ⟨gb,ob+i*2+1,none⟩=some (.slice vb x.length nb)):=fun v s=>(s.cell _).trans hcb;have Ra:=aa hra;have Rb:=aa hrb;have hsd:aP W wr.drew:=hs2.drew;have hde:decide (x=x)=true:=by simp
   have hee:(x0==x0)=true:=by simp
   clear hx hx' hca hcb hca0 hcb0 hra hrb;go_wp2_with fail
   go_region_held3 (fun v=>v.cell? ⟨w.heap.size,1,none⟩=some (.slice (some ⟨ga,oa,none⟩) p1 c1)/\v.cell? ⟨ga,oa+i*2,none⟩=some (.int .i64 x0)/\v.cell? ⟨ga,oa+i*2+1,none⟩=some (.slice va x.length na)/\v.cell? ⟨w.heap.size+1,1,none⟩=some (.slice (some ⟨gb,ob,none⟩) p1 d1)/\v.cell? ⟨gb,ob+i*2,none⟩=some (.int .i64 x0)/\v.cell? ⟨gb,ob+i*2+1,none⟩=some (.slice vb x.length nb))
    (first|(with_reducible exact ⟨Ha1.out wa sa,Ca0.out wa sa,Ca.out wa sa,Hb1.out wa sa,Cb0.out wa sa,Cb.out wa sa⟩)|(with_reducible exact ⟨Ha1.out wr.drew hsd,Ca0.out wr.drew hsd,Ca.out wr.drew hsd,Hb1.out wr.drew hsd,Cb0.out wr.drew hsd,Cb.out wr.drew hsd⟩)|(with_reducible exact ⟨Ha1.out wr hs2,Ca0.out wr hs2,Ca.out wr hs2,Hb1.out wr hs2,Cb0.out wr hs2,Cb.out wr hs2⟩)|go_keep)
    (first|(go_at_call 16;refine (eY _ _ _ _ _ _ _ x x rfl rfl (Ra.out.same hsd) (Rb.out.same hsd) lx).mono ?_;rintro e wa ⟨rfl,sa0⟩;have sa:aP W wa:=hsd.trans sa0;clear sa0))
   go_wp2
   go_roundw
   case rel=>exact ⟨i+1,by omega,by go_num,sa⟩
   case measure=>simp [intOf];omega
 go_wp2
 go_ret
 exact ⟨rfl,Below.andSame HA.out hs2⟩
theorem oT (W:World) (E E':TypeId) (a b:Option Addr) (la lb ca cb:Nat) (d:List (Int×List Int)) (h:(aW E).Rd W [.slice a la ca] d) (h':(aW E').Rd W [.slice b lb cb] d) (hw:aX d<=2097152):
 Calls Tryz.prog 41 #[.slice a la ca,.slice b lb cb] W fun e w'=>e=.returned (.bool true)/\aP W w':=by
 obtain ⟨hl,hc,hm⟩:=ag h;obtain ⟨hl',hc',hm'⟩:=ag h';have hla:la<=2097152:=by unfold aX at hw;omega
 have hlen:la=lb:=by omega
 subst hlen;go_enter Tryz.func41,Tryz.ntmps41
 go_wp2
 go_loopw [5] (fun i wr=>∃j:Nat,j<=la/\i=.int .i64 j/\aP W wr) (fun i _=>la-(intOf i).toNat)
 case atStart=>exact ⟨0,Nat.zero_le _,rfl,aP.refl _⟩
 obtain ⟨i,hi,rfl,hs2⟩:=hrel;by_cases hil:i<la
 . have i1:(0:Int)<=(i:Int):=by omega
   have i2:(i:Int)<(la:Int):=by omega
   obtain ⟨ga,oa,x0,x,va,na,rfl,hx,hca0,hca,hra⟩:=uk (j:=i) h hil;obtain ⟨gb,ob,y0,y,vb,nb,rfl,hx',hcb0,hcb,hrb⟩:=uk (j:=i) h' hil;obtain ⟨rfl,rfl⟩:x0=y0/\x=y:=by have:=hx.symm.trans hx';simpa using this
   have lx:x.length<=2097152:=Nat.le_trans (cK hx) hw;have Ca0:Hid (∀v:World,aP W v->v.cell? ⟨ga,oa+i*2,none⟩=some (.int .i64 x0)):=fun v s=>(s.cell _).trans hca0;have Ca:Hid (∀v:World,aP W v->v.cell? ⟨ga,oa+i*2+1,none⟩=some (.slice va x.length na)):=fun v s=>(s.cell _).trans hca;have Cb0:Hid (∀v:World,aP W v->v.cell? ⟨gb,ob+i*2,none⟩=some (.int .i64 x0)):=fun v s=>(s.cell _).trans hcb0;have Cb:Hid (∀v:World,aP W v->v.cell? ⟨gb,ob+i*2+1,none⟩=some (.slice vb x.length nb)):=fun v s=>(s.cell _).trans hcb;have Ra:=aa hra;have Rb:=aa hrb;have hsd:aP W wr.drew:=hs2.drew;have hde:decide (x=x)=true:=by simp
   have hee:(x0==x0)=true:=by simp
   clear hx hx' hca hcb hca0 hcb0 hra hrb;go_wp2_with fail
   go_region_held3 (fun v=>v.cell? ⟨ga,oa+i*2,none⟩=some (.int .i64 x0)/\v.cell? ⟨ga,oa+i*2+1,none⟩=some (.slice va x.length na)/\v.cell? ⟨gb,ob+i*2,none⟩=some (.int .i64 x0)/\v.cell? ⟨gb,ob+i*2+1,none⟩=some (.slice vb x.length nb))
    (first|(with_reducible exact ⟨Ca0.out wa sa,Ca.out wa sa,Cb0.out wa sa,Cb.out wa sa⟩)|(with_reducible exact ⟨Ca0.out wr.drew hsd,Ca.out wr.drew hsd,Cb0.out wr.drew hsd,Cb.out wr.drew hsd⟩)|(with_reducible exact ⟨Ca0.out wr hs2,Ca.out wr hs2,Cb0.out wr hs2,Cb.out wr hs2⟩)|go_keep)
    (first|(go_at_call 16;refine (eY _ _ _ _ _ _ _ x x rfl rfl (Ra.out.same hsd) (Rb.out.same hsd) lx).mono ?_;rintro e wa ⟨rfl,sa0⟩;have sa:aP W wa:=hsd.trans sa0;clear sa0))
   go_wp2
   go_roundw
   case rel=>exact ⟨i+1,by omega,by go_num,sa⟩
   case measure=>simp [intOf];omega
 go_wp2
 go_ret
 exact ⟨rfl,hs2⟩
end Go.Proofs.YtgjomldcnjjpaaaGreat
