/-
 The walk of sameDirty of package laws: entries that read alike. Condition: they weigh at most 2097152.
-/
import Derived.Test.YtejokiafgbjdaaaGreatRowFailsBentSq7
import Derived.Test.YtejokiafgbjdaaaGreatRowFailsBentSq6
import Derived.Test.YtejokiafgbjdaaaGreatRowFailsBentSq5
import Derived.Deep.RegionHeld3

set_option maxRecDepth 100000
set_option maxHeartbeats 8000000
set_option linter.unusedSimpArgs false

namespace Go.Proofs.YtejokiafgbjdaaaGreat
open Go.RowKit

theorem cn.but {w w':World} {B l h:Nat} {T:TypeId} {n s:Int} (hx:cn w B T n s) (hb:But l h w w') (hB:B<l∨h<=B):cn w' B T n s:=(hb.block B hx.lt hB).trans hx
theorem cn.alloc {w:World} {B:Nat} {T:TypeId} {n s:Int} (h:cn w B T n s) (o:Obj):cn (w.alloc o) B T n s:=h.below (ah w o) h.lt
theorem cn.set0 {w:World} {B:Nat} {T:TypeId} {n s:Int} (h:cn w B T n s) (a:Int):cn (w.setCell ⟨B,0,none⟩ (.int .i64 a)) B T a s:=heap_setCell_same w B 0 _ _ _ h
theorem cn.set1 {w:World} {B:Nat} {T:TypeId} {n s:Int} (h:cn w B T n s) (a:Int):cn (w.setCell ⟨B,1,none⟩ (.int .i64 a)) B T n a:=heap_setCell_same w B 1 _ _ _ h
theorem ik {N B:Nat} {w w':World} (h:Below N w w') (hB:N<=B) (u v:Value):Below N w ((w'.setCell ⟨B,0,none⟩ u).setCell ⟨B,1,none⟩ v):=(h.setCell (p:=⟨B,0,none⟩) hB u).setCell (p:=⟨B,1,none⟩) hB v
theorem aN.drew {w:World} {g lb cb:Nat} {a:Option Addr} {zs:List Int} (h:aN w g a lb cb zs):aN w.drew g a lb cb zs:=⟨h.cur,h.len,h.reads.draw,h.bytes,h.few,h.ahead⟩
theorem sB {w:World} {g lb cb:Nat} {a:Option Addr} {zs:List Int} (h:aN w g a lb cb zs):
 Calls Tryz.prog 167 #[.pointer (some ⟨g,0,none⟩)] w fun e w'=>∃n s:Int,e=.returned (.agg #[.int .i64 n,.int .i64 s])/\bI n s=true/\aN w' g a lb cb zs/\But g (g+1) w w':=by
 have hA:=ah w (.cells #[.int .i64 0,.int .i64 0] 25);have X:=cn.new w 25 0 0;have D0:=h.alloc (.cells #[.int .i64 0,.int .i64 0] 25);have zA:=X.lt;have hg:=h.lt;go_enter Tryz.func167,Tryz.ntmps167
 go_wp2_with fail
 refine (bF D0 3 (by omega) (by omega)).mono ?_
 rintro e w1 ⟨x,rfl,hx0,hx1,D1,b1⟩;have X1:=X.but b1 (.inr (by omega));have B1:=(But.of_below (lo:=g) (hi:=g+1) hA).trans b1;clear X b1 hA D0;go_wp2_with fail
 refine (bF D1 8 (by omega) (by omega)).mono ?_
 rintro e w2 ⟨y,rfl,hy0,hy1,D2,b2⟩;have X2:=X1.but b2 (.inr (by omega));have B2:=B1.trans b2;clear X1 b2 B1 D1;obtain ⟨j0,j1⟩:=X2.cells;have f0:=X2.frozen 0;have f1:=X2.frozen 1;have Z:=X2.set2 (3+x) (1+y);obtain ⟨q0,q1⟩:=Z.cells;have DD:=aa (D2.lower (ik (Below.refl w.heap.size w2) (Nat.le_refl _) (.int .i64 (3+x)) (.int .i64 (1+y))) hg);have BB:=aa (B2.thenBelow (ik (Below.refl w.heap.size w2) (Nat.le_refl _) (.int .i64 (3+x)) (.int .i64 (1+y))));go_wp2
 refine bodyPost_ret (v:=.agg #[.int .i64 (3+x),.int .i64 (1+y)]) (by simp [results,Tryz.results167,go_sem,q0,q1]) rfl ?_
 exact ⟨_,_,rfl,az.2 (by omega),DD.out,BB.out⟩
theorem sC {w:World} {g lb cb:Nat} {a:Option Addr} {zs:List Int} (h:aN w g a lb cb zs):
 Calls Tryz.prog 105 #[.pointer (some ⟨g,0,none⟩)] w fun e w'=>∃n s:Int,e=.returned (.agg #[.int .i64 n,.int .i64 s])/\(-64<=n/\n<=64)/\aN w' g a lb cb zs/\But g (g+1) w w':=by
 have hA:=ah w (.cells #[.int .i64 0,.int .i64 0] 25);have X:=cn.new w 25 0 0;have D0:=h.alloc (.cells #[.int .i64 0,.int .i64 0] 25);have zA:=X.lt;have hg:=h.lt;go_enter Tryz.func105,Tryz.ntmps105
 go_wp2_with fail
 refine (sB D0).mono ?_
 rintro e w1 ⟨n,s,rfl,hgeo,D1,b1⟩;have HNB:Hid (-64<=n/\n<=64):=by have:=az.1 hgeo;unfold Hid;omega
 clear hgeo;have X1:=X.but b1 (.inr (by omega));have B1:=(But.of_below (lo:=g) (hi:=g+1) hA).trans b1;have z1:=X1.lt;clear X b1 hA D0 zA;have G2:=cn.new w1 25 n s;have X2:=X1.alloc (.cells #[.int .i64 n,.int .i64 s] 25);have D2:=D1.alloc (.cells #[.int .i64 n,.int .i64 s] 25);have B2:=B1.alloc (.cells #[.int .i64 n,.int .i64 s] 25);have z2:=G2.lt;clear X1 D1 B1;go_wp2_with fail
 generalize w1.alloc (.cells #[.int .i64 n,.int .i64 s] 25)=W2 at G2 X2 D2 B2 z2 ⊢;refine (bF D2 8 (by omega) (by omega)).mono ?_
 rintro e w3 ⟨x,rfl,hx0,hx1,D3,b3⟩;have G3:=G2.but b3 (.inr (by omega));have X3:=X2.but b3 (.inr (by omega));have B3:=B2.trans b3;clear G2 X2 D2 B2 b3;have key:∀(w4:World) (n' s':Int),cn w4 w1.heap.size 25 n' s'->cn w4 w.heap.size 25 0 0->aN w4 g a lb cb zs->But g (g+1) w w4->(-64<=n'/\n'<=64) ->
  ∃n s:Int,(Ending.returned (.agg #[.int .i64 n',.int .i64 s'])=.returned (.agg #[.int .i64 n,.int .i64 s]))/\(-64<=n/\n<=64)/\aN ((w4.setCell ⟨w.heap.size,0,none⟩ (.int .i64 n')).setCell ⟨w.heap.size,1,none⟩ (.int .i64 s')) g a lb cb zs/\But g (g+1) w ((w4.setCell ⟨w.heap.size,0,none⟩ (.int .i64 n')).setCell ⟨w.heap.size,1,none⟩ (.int .i64 s')):=
  fun w4 n' s' _ _ D B hB=>⟨n',s',rfl,hB,D.lower (ik (Below.refl w.heap.size w4) (Nat.le_refl _) _ _) hg,B.thenBelow (ik (Below.refl w.heap.size w4) (Nat.le_refl _) _ _)⟩
 by_cases h0:x=0
 . subst h0
   have HR:=aa (aF.new .i64 w3 3 [0,2,6,-1] _ rfl);go_wp2_with fail
   refine (jW (D3.alloc _) _ 4 _ [0,2,6,-1] rfl HR.out ?hx0 (by omega) (by omega)).mono ?_
   case hx0=>intro x hx;simp at hx;subst hx;exact D3.lt
   rintro e w4 ⟨y,rfl,hy,D4,b4⟩;have HY:Hid (-64<=y/\y<=64):=by simp at hy;unfold Hid;omega
   clear hy;have G4:=(G3.alloc _).but b4 (.inr (by omega));have X4:=(X3.alloc _).but b4 (.inr (by omega));have B4:=(B3.alloc _).trans b4;have z4:=G4.lt;clear G3 X3 D3 B3 b4;obtain ⟨g0,g1⟩:=G4.cells;have fg:=G4.frozen 0;have hne:w.heap.size≠w1.heap.size:=by omega
   have G5:=G4.set0 y;have X5:cn (w4.setCell ⟨w1.heap.size,0,none⟩ (.int .i64 y)) w.heap.size 25 0 0:=X4.but (But.setCell (Nat.le_refl _) (Nat.lt_succ_self _) _) (.inl (by omega));have D5:=D4.lower ((Below.refl w1.heap.size w4).setCell (p:=⟨w1.heap.size,0,none⟩) (Nat.le_refl _) (.int .i64 y)) (by omega);have B5:=B4.thenBelow (((Below.refl w1.heap.size w4).setCell (p:=⟨w1.heap.size,0,none⟩) (Nat.le_refl _) (.int .i64 y)).mono (by omega));have K:=aa (key _ y s G5 X5 D5 B5 HY.out);obtain ⟨x0,x1⟩:=X5.cells;obtain ⟨q0,q1⟩:=(X5.set2 y s).cells;obtain ⟨r0,r1⟩:=G5.cells;have f0:=X5.frozen 0;have f1:=X5.frozen 1;clear G4 X4 D4 B4 G5 X5 D5 B5 key;go_wp2
   refine bodyPost_ret (v:=.agg #[.int .i64 y,.int .i64 s]) (by simp [results,Tryz.results105,go_sem,q0,q1]) rfl ?_
   exact K.out
 by_cases h1:x=1
 . subst h1
   have HR:=aa (aF.new .i64 w3 3 [0,9,-1] _ rfl);go_wp2_with fail
   refine (jW (D3.alloc _) _ 3 _ [0,9,-1] rfl HR.out ?hx1 (by omega) (by omega)).mono ?_
   case hx1=>intro x hx;simp at hx;subst hx;exact D3.lt
   rintro e w4 ⟨y,rfl,_,D4,b4⟩;have G4:=(G3.alloc _).but b4 (.inr (by omega));have X4:=(X3.alloc _).but b4 (.inr (by omega));have B4:=(B3.alloc _).trans b4;have z4:=G4.lt;clear G3 X3 D3 B3 b4;obtain ⟨g0,g1⟩:=G4.cells;have fg:=G4.frozen 1;have hne:w.heap.size≠w1.heap.size:=by omega
   have G5:=G4.set1 y;have X5:cn (w4.setCell ⟨w1.heap.size,1,none⟩ (.int .i64 y)) w.heap.size 25 0 0:=X4.but (But.setCell (Nat.le_refl _) (Nat.lt_succ_self _) _) (.inl (by omega));have D5:=D4.lower ((Below.refl w1.heap.size w4).setCell (p:=⟨w1.heap.size,1,none⟩) (Nat.le_refl _) (.int .i64 y)) (by omega);have B5:=B4.thenBelow (((Below.refl w1.heap.size w4).setCell (p:=⟨w1.heap.size,1,none⟩) (Nat.le_refl _) (.int .i64 y)).mono (by omega));have K:=aa (key _ n y G5 X5 D5 B5 HNB.out);obtain ⟨x0,x1⟩:=X5.cells;obtain ⟨q0,q1⟩:=(X5.set2 n y).cells;obtain ⟨r0,r1⟩:=G5.cells;have f0:=X5.frozen 0;have f1:=X5.frozen 1;clear G4 X4 D4 B4 G5 X5 D5 B5 key;go_wp2
   refine bodyPost_ret (v:=.agg #[.int .i64 n,.int .i64 y]) (by simp [results,Tryz.results105,go_sem,q0,q1]) rfl ?_
   exact K.out
 have e0:(x==0)=false:=by simpa using h0
 have e1:(x==1)=false:=by simpa using h1
 obtain ⟨g0,g1⟩:=G3.cells;obtain ⟨x0,x1⟩:=X3.cells;have f0:=X3.frozen 0;have f1:=X3.frozen 1;obtain ⟨q0,q1⟩:=(X3.set2 n s).cells;have K:=aa (key w3 n s G3 X3 D3 B3 HNB.out);clear G3 X3 D3 B3 key;go_wp2
 refine bodyPost_ret (v:=.agg #[.int .i64 n,.int .i64 s]) (by simp [results,Tryz.results105,go_sem,q0,q1]) rfl ?_
 exact K.out
theorem tZ {w:World} {a:Option Addr} {n cap j:Nat} {d:List (List Int)} (h:aR.Rd w [.slice a n cap] d) (hj:j<n):
 ∃b off x av cv,a=some ⟨b,off,none⟩/\d[j]?=some x/\w.cell? ⟨b,off+j,none⟩=some (.slice av x.length cv)/\aF .i64 w av x:=by
 have hl:=(ae h).1;rcases gX rfl h with h0|⟨b,off,ha,_,hc⟩
 . omega
 have hx:=List.getElem?_eq_getElem (show j<d.length by omega);obtain ⟨v,hv,hr⟩:=hc j _ hx;obtain ⟨av,cv,rfl⟩:=aw hr;exact ⟨b,off,_,av,cv,ha,hx,hv,(aO hr).1⟩
theorem rL {E:TypeId} {w:World} {a:Option Addr} {n cap j:Nat} {d:List (Int×List Int)} (h:(aU E).Rd w [.slice a n cap] d) (hj:j<n):
 ∃b off x0 x1 av cv,a=some ⟨b,off,none⟩/\d[j]?=some (x0,x1)/\w.cell? ⟨b,off+j*2,none⟩=some (.int .i64 x0)/\w.cell? ⟨b,off+j*2+1,none⟩=some (.slice av x1.length cv)/\aF .i64 w av x1:=by
 have hl:=(ae h).1;rcases cO rfl h with h0|⟨b,off,ha,_,hc⟩
 . omega
 have hx:=List.getElem?_eq_getElem (show j<d.length by omega);obtain ⟨v0,v1,hv0,hv1,hr⟩:=hc j _ hx;obtain ⟨rfl,hr1⟩:=eB hr;obtain ⟨av,cv,rfl⟩:=aw hr1;exact ⟨b,off,d[j].1,d[j].2,av,cv,ha,hx,hv0,hv1,(aO hr1).1⟩
theorem oT (w:World) (E E':TypeId) (a0 a1 a3 b0 b1 b3:Option Addr) (n0 c0 n1 c1 n3 c3 p0 d0 p1 d1 p3 d3:Nat) (ss:List (List Int)) (cs:List (Int×List Int)) (f:Bool) (bs:List Int)
 (h0:aR.Rd w [.slice a0 n0 c0] ss) (h1:(aU E).Rd w [.slice a1 n1 c1] cs) (h3:aA.Rd w [.slice a3 n3 c3] bs)
 (g0:aR.Rd w [.slice b0 p0 d0] ss) (g1:(aU E').Rd w [.slice b1 p1 d1] cs) (g3:aA.Rd w [.slice b3 p3 d3] bs) (hw:aJ (ss,cs,f,bs)<=2097152):
 Calls Tryz.prog 126 #[.agg #[.slice a0 n0 c0,.slice a1 n1 c1,.bool f,.slice a3 n3 c3],.agg #[.slice b0 p0 d0,.slice b1 p1 d1,.bool f,.slice b3 p3 d3]] w fun e w'=>e=.returned (.bool true)/\Below w.heap.size w w':=by
 have hA:Below w.heap.size w ((w.alloc (.cells #[.slice a0 n0 c0,.slice a1 n1 c1,.bool f,.slice a3 n3 c3] 78)).alloc (.cells #[.slice b0 p0 d0,.slice b1 p1 d1,.bool f,.slice b3 p3 d3] 78)):=((Below.refl _ _).alloc (Nat.le_refl _) _).alloc (by simp) _;have xa:Box ((w.alloc (.cells #[.slice a0 n0 c0,.slice a1 n1 c1,.bool f,.slice a3 n3 c3] 78)).alloc (.cells #[.slice b0 p0 d0,.slice b1 p1 d1,.bool f,.slice b3 p3 d3] 78)) w.heap.size 78 _:=(Box.new w 78 #[.slice a0 n0 c0,.slice a1 n1 c1,.bool f,.slice a3 n3 c3]).alloc _;have xb:Box ((w.alloc (.cells #[.slice a0 n0 c0,.slice a1 n1 c1,.bool f,.slice a3 n3 c3] 78)).alloc (.cells #[.slice b0 p0 d0,.slice b1 p1 d1,.bool f,.slice b3 p3 d3] 78)) (w.heap.size+1) 78 #[.slice b0 p0 d0,.slice b1 p1 d1,.bool f,.slice b3 p3 d3]:=by
  have:=Box.new (w.alloc (.cells #[.slice a0 n0 c0,.slice a1 n1 c1,.bool f,.slice a3 n3 c3] 78)) 78 #[.slice b0 p0 d0,.slice b1 p1 d1,.bool f,.slice b3 p3 d3];rw [show (w.alloc (.cells #[.slice a0 n0 c0,.slice a1 n1 c1,.bool f,.slice a3 n3 c3] 78)).heap.size=w.heap.size+1 by simp] at this;exact this
 obtain rfl:p0=n0:=(ae g0).1.symm.trans (ae h0).1;obtain rfl:p1=n1:=(ae g1).1.symm.trans (ae h1).1;obtain rfl:p3=n3:=(ae g3).1.symm.trans (ae h3).1;have HM0:=aa (ae h0);have HM1:=aa (ae h1);have h0:=h0.below hA;have h1:=h1.below hA;have h3:=h3.below hA;have g0:=g0.below hA;have g1:=g1.below hA;have g3:=g3.below hA;obtain ⟨r3,l3,_,_⟩:=aO h3;obtain ⟨t3,m3,_,_⟩:=aO g3;have HL3:=aa l3;have HM3:=aa m3;have HW0:Hid (∀x∈ss,x.length<=2097152):=fun x hx=>by
  obtain ⟨j,hj⟩:=List.mem_iff_getElem?.1 hx;have:=fC hj;unfold aJ at hw;dsimp only at hw
  omega
 have HW1:Hid (∀x∈cs,x.2.length<=2097152):=fun x hx=>by
  obtain ⟨j,hj⟩:=List.mem_iff_getElem?.1 hx;have:=bV hj;unfold aJ at hw;dsimp only at hw
  omega
 have HW3:Hid (p3<=2097152):=by
  unfold Hid;unfold aJ at hw;dsimp only at hw
  omega
 have hbd0:p0<=2097152:=by
  have h9:=HM0.out.1;unfold aJ cB at hw;dsimp only at hw
  omega
 have hbd1:p1<=2097152:=by
  have h9:=HM1.out.1;unfold aJ aY at hw;dsimp only at hw
  omega
 clear l3 m3 hw;go_enter Tryz.func126,Tryz.ntmps126
 go_wp2_with fail
 generalize hW:(w.alloc (.cells #[.slice a0 p0 c0,.slice a1 p1 c1,.bool f,.slice a3 p3 c3] 78)).alloc (.cells #[.slice b0 p0 d0,.slice b1 p1 d1,.bool f,.slice b3 p3 d3] 78)=W at hA xa xb h0 h1 h3 g0 g1 g3 r3 t3 ⊢;clear hW;refine (fj _ _ _ _ _ _ _ bs bs HL3.out HM3.out r3 t3 HW3.out).mono ?_
 rintro e w1 ⟨rfl,s1⟩;have hd:decide (bs=bs)=true:=by simp
 have HA:=aa hA;have Ha0:Hid (∀v:World,aH W v->v.cell? ⟨w.heap.size,0,none⟩=some (.slice a0 p0 c0)):=fun v s=>(s.cell _).trans (xa.cell 0);have Ha1:Hid (∀v:World,aH W v->v.cell? ⟨w.heap.size,1,none⟩=some (.slice a1 p1 c1)):=fun v s=>(s.cell _).trans (xa.cell 1);have Hb0:Hid (∀v:World,aH W v->v.cell? ⟨w.heap.size+1,0,none⟩=some (.slice b0 p0 d0)):=fun v s=>(s.cell _).trans (xb.cell 0);have Hb1:Hid (∀v:World,aH W v->v.cell? ⟨w.heap.size+1,1,none⟩=some (.slice b1 p1 d1)):=fun v s=>(s.cell _).trans (xb.cell 1);have G0:=aa h0;have G1:=aa h1;have F0:=aa g0;have F1:=aa g1;clear hA xa xb h0 h1 h3 g0 g1 g3 r3 t3 HL3 HM3 HW3;go_wp2_with fail
 go_loopw [5] (fun i wr=>∃j:Nat,j<=p0/\i=.int .i64 j/\aH W wr) (fun i _=>p0-(intOf i).toNat)
 case atStart=>exact ⟨0,Nat.zero_le _,rfl,s1⟩
 obtain ⟨j,hj,rfl,hs⟩:=hrel;clear s1 hd;have ca0:=Ha0.out wr hs;by_cases hlt:j<p0
 . have i1:(0:Int)<=(j:Int):=by omega
   have i2:(j:Int)<(p0:Int):=by omega
   obtain ⟨ga,oa,x,va,na,rfl,hx,hca,hra⟩:=tZ (j:=j) G0.out hlt;obtain ⟨gb,ob,x',vb,nb,rfl,hx',hcb,hrb⟩:=tZ (j:=j) F0.out hlt;obtain rfl:x=x':=by have:=hx.symm.trans hx';simpa using this
   have lx:x.length<=2097152:=HW0.out _ (List.mem_of_getElem? hx);have Ca:Hid (∀v:World,aH W v->v.cell? ⟨ga,oa+j,none⟩=some (.slice va x.length na)):=fun v s=>(s.cell _).trans hca;have Cb:Hid (∀v:World,aH W v->v.cell? ⟨gb,ob+j,none⟩=some (.slice vb x.length nb)):=fun v s=>(s.cell _).trans hcb;have Ra:=aa hra;have Rb:=aa hrb;have hsd:aH W wr.drew:=hs.drew;have hde:decide (x=x)=true:=by simp
   clear hx hx' hca hcb hra hrb;go_wp2_with fail
   go_region_held3 (fun v=>v.cell? ⟨w.heap.size,0,none⟩=some (.slice (some ⟨ga,oa,none⟩) p0 c0)/\v.cell? ⟨ga,oa+j,none⟩=some (.slice va x.length na)/\v.cell? ⟨w.heap.size+1,0,none⟩=some (.slice (some ⟨gb,ob,none⟩) p0 d0)/\v.cell? ⟨gb,ob+j,none⟩=some (.slice vb x.length nb))
    (first|(with_reducible exact ⟨Ha0.out wa sa,Ca.out wa sa,Hb0.out wa sa,Cb.out wa sa⟩)|(with_reducible exact ⟨Ha0.out wr.drew hsd,Ca.out wr.drew hsd,Hb0.out wr.drew hsd,Cb.out wr.drew hsd⟩)|(with_reducible exact ⟨Ha0.out wr hs,Ca.out wr hs,Hb0.out wr hs,Cb.out wr hs⟩)|go_keep)
    (first|(go_at_call 127;refine (fj _ _ _ _ _ _ _ x x rfl rfl (Ra.out.same hsd) (Rb.out.same hsd) lx).mono ?_;rintro e wa ⟨rfl,sa0⟩;have sa:aH W wa:=hsd.trans sa0;clear sa0))
   go_wp2
   go_roundw
   case rel=>exact ⟨j+1,by omega,by go_num,sa⟩
   case measure=>simp [intOf];omega
 go_wp2_with fail
 go_loopw [6] (fun i wr2=>∃j:Nat,j<=p1/\i=.int .i64 j/\aH W wr2) (fun i _=>p1-(intOf i).toNat)
 case atStart=>exact ⟨0,Nat.zero_le _,rfl,hs⟩
 clear ca0 hlt hj;obtain ⟨i,hi,rfl,hs2⟩:=hrel;have ca1:=Ha1.out wr hs2;by_cases hil:i<p1
 . have i1:(0:Int)<=(i:Int):=by omega
   have i2:(i:Int)<(p1:Int):=by omega
   obtain ⟨ga,oa,x0,x,va,na,rfl,hx,hca0,hca,hra⟩:=rL (j:=i) G1.out hil;obtain ⟨gb,ob,y0,y,vb,nb,rfl,hx',hcb0,hcb,hrb⟩:=rL (j:=i) F1.out hil;obtain ⟨rfl,rfl⟩:x0=y0/\x=y:=by have:=hx.symm.trans hx';simpa using this
   have lx:x.length<=2097152:=HW1.out _ (List.mem_of_getElem? hx);have Ca0:Hid (∀v:World,aH W v->v.cell? ⟨ga,oa+i*2,none⟩=some (.int .i64 x0)):=fun v s=>(s.cell _).trans hca0;have Ca:Hid (∀v:World,aH W v->v.cell? ⟨ga,oa+i*2+1,none⟩=some (.slice va x.length na)):=fun v s=>(s.cell _).trans hca;have Cb0:Hid (∀v:World,aH W v->v.cell? ⟨gb,ob+i*2,none⟩=some (.int .i64 x0)):=fun v s=>(s.cell _).trans hcb0;have Cb:Hid (∀v:World,aH W v->v.cell? ⟨gb,ob+i*2+1,none⟩=some (.slice vb x.length nb)):=fun v s=>(s.cell _).trans hcb;have Ra:=aa hra;have Rb:=aa hrb;have hsd:aH W wr.drew:=hs2.drew;have hde:decide (x=x)=true:=by simp
   have hee:(x0==x0)=true:=by simp
   clear hx hx' hca hcb hca0 hcb0 hra hrb;go_wp2_with fail
   go_region_held3 (fun v=>v.cell? ⟨w.heap.size,1,none⟩=some (.slice (some ⟨ga,oa,none⟩) p1 c1)/\v.cell? ⟨ga,oa+i*2,none⟩=some (.int .i64 x0)/\v.cell? ⟨ga,oa+i*2+1,none⟩=some (.slice va x.length na)/\v.cell? ⟨w.heap.size+1,1,none⟩=some (.slice (some ⟨gb,ob,none⟩) p1 d1)/\v.cell? ⟨gb,ob+i*2,none⟩=some (.int .i64 x0)/\v.cell? ⟨gb,ob+i*2+1,none⟩=some (.slice vb x.length nb))
    (first|(with_reducible exact ⟨Ha1.out wa sa,Ca0.out wa sa,Ca.out wa sa,Hb1.out wa sa,Cb0.out wa sa,Cb.out wa sa⟩)|(with_reducible exact ⟨Ha1.out wr.drew hsd,Ca0.out wr.drew hsd,Ca.out wr.drew hsd,Hb1.out wr.drew hsd,Cb0.out wr.drew hsd,Cb.out wr.drew hsd⟩)|(with_reducible exact ⟨Ha1.out wr hs2,Ca0.out wr hs2,Ca.out wr hs2,Hb1.out wr hs2,Cb0.out wr hs2,Cb.out wr hs2⟩)|go_keep)
    (first|(go_at_call 127;refine (fj _ _ _ _ _ _ _ x x rfl rfl (Ra.out.same hsd) (Rb.out.same hsd) lx).mono ?_;rintro e wa ⟨rfl,sa0⟩;have sa:aH W wa:=hsd.trans sa0;clear sa0))
   go_wp2
   go_roundw
   case rel=>exact ⟨i+1,by omega,by go_num,sa⟩
   case measure=>simp [intOf];omega
 go_wp2
 go_ret
 exact ⟨rfl,Below.andSame HA.out hs2⟩
theorem mL (W:World) (E E':TypeId) (a b:Option Addr) (la lb ca cb:Nat) (d:List (Int×List Int)) (h:(aU E).Rd W [.slice a la ca] d) (h':(aU E').Rd W [.slice b lb cb] d) (hw:aY d<=2097152):
 Calls Tryz.prog 72 #[.slice a la ca,.slice b lb cb] W fun e w'=>e=.returned (.bool true)/\aH W w':=by
 obtain ⟨hl,hc,hm⟩:=ae h;obtain ⟨hl',hc',hm'⟩:=ae h';have hla:la<=2097152:=by unfold aY at hw;omega
 have hlen:la=lb:=by omega
 subst hlen;go_enter Tryz.func72,Tryz.ntmps72
 go_wp2
 go_loopw [5] (fun i wr=>∃j:Nat,j<=la/\i=.int .i64 j/\aH W wr) (fun i _=>la-(intOf i).toNat)
 case atStart=>exact ⟨0,Nat.zero_le _,rfl,aH.refl _⟩
 obtain ⟨i,hi,rfl,hs2⟩:=hrel;by_cases hil:i<la
 . have i1:(0:Int)<=(i:Int):=by omega
   have i2:(i:Int)<(la:Int):=by omega
   obtain ⟨ga,oa,x0,x,va,na,rfl,hx,hca0,hca,hra⟩:=rL (j:=i) h hil;obtain ⟨gb,ob,y0,y,vb,nb,rfl,hx',hcb0,hcb,hrb⟩:=rL (j:=i) h' hil;obtain ⟨rfl,rfl⟩:x0=y0/\x=y:=by have:=hx.symm.trans hx';simpa using this
   have lx:x.length<=2097152:=Nat.le_trans (bV hx) hw;have Ca0:Hid (∀v:World,aH W v->v.cell? ⟨ga,oa+i*2,none⟩=some (.int .i64 x0)):=fun v s=>(s.cell _).trans hca0;have Ca:Hid (∀v:World,aH W v->v.cell? ⟨ga,oa+i*2+1,none⟩=some (.slice va x.length na)):=fun v s=>(s.cell _).trans hca;have Cb0:Hid (∀v:World,aH W v->v.cell? ⟨gb,ob+i*2,none⟩=some (.int .i64 x0)):=fun v s=>(s.cell _).trans hcb0;have Cb:Hid (∀v:World,aH W v->v.cell? ⟨gb,ob+i*2+1,none⟩=some (.slice vb x.length nb)):=fun v s=>(s.cell _).trans hcb;have Ra:=aa hra;have Rb:=aa hrb;have hsd:aH W wr.drew:=hs2.drew;have hde:decide (x=x)=true:=by simp
   have hee:(x0==x0)=true:=by simp
   clear hx hx' hca hcb hca0 hcb0 hra hrb;go_wp2_with fail
   go_region_held3 (fun v=>v.cell? ⟨ga,oa+i*2,none⟩=some (.int .i64 x0)/\v.cell? ⟨ga,oa+i*2+1,none⟩=some (.slice va x.length na)/\v.cell? ⟨gb,ob+i*2,none⟩=some (.int .i64 x0)/\v.cell? ⟨gb,ob+i*2+1,none⟩=some (.slice vb x.length nb))
    (first|(with_reducible exact ⟨Ca0.out wa sa,Ca.out wa sa,Cb0.out wa sa,Cb.out wa sa⟩)|(with_reducible exact ⟨Ca0.out wr.drew hsd,Ca.out wr.drew hsd,Cb0.out wr.drew hsd,Cb.out wr.drew hsd⟩)|(with_reducible exact ⟨Ca0.out wr hs2,Ca.out wr hs2,Cb0.out wr hs2,Cb.out wr hs2⟩)|go_keep)
    (first|(go_at_call 127;refine (fj _ _ _ _ _ _ _ x x rfl rfl (Ra.out.same hsd) (Rb.out.same hsd) lx).mono ?_;rintro e wa ⟨rfl,sa0⟩;have sa:aH W wa:=hsd.trans sa0;clear sa0))
   go_wp2
   go_roundw
   case rel=>exact ⟨i+1,by omega,by go_num,sa⟩
   case measure=>simp [intOf];omega
 go_wp2
 go_ret
 exact ⟨rfl,hs2⟩
end Go.Proofs.YtejokiafgbjdaaaGreat
