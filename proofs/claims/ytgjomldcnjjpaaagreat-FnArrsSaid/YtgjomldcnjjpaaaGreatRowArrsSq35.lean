/-
 The walk of the specification's l2Draw: a drawn disk that is right, in memory of its own. Condition: at most 2097152 bytes are drawn from.
-/
import Derived.Test.YtgjomldcnjjpaaaGreatRowArrsSq29
import Derived.Test.YtgjomldcnjjpaaaGreatRowArrsSq24
import Derived.Test.YtgjomldcnjjpaaaGreatRowArrsSq4

set_option maxRecDepth 100000
set_option maxHeartbeats 8000000
set_option linter.unusedSimpArgs false

namespace Go.Proofs.YtgjomldcnjjpaaaGreat
open Go.RowKit

theorem qY {ss:List (List Int)} {cs:List (Int×List Int)} {f:Bool} {bs:List Int} (h:bF ss cs bs=true) (hb:bs.length<=7) (hc:cs.length<=7):aM (ss,cs,f,bs)<=2097152:=by
 have h1:=dY (ss.map List.length) 12 (fun x hx=>by
  obtain ⟨y,hy,rfl⟩:=List.mem_map.1 hx;exact (io h).1 y hy)
 have h2:=dY (cs.map fun x=>x.2.length) 12 (fun x hx=>by
  obtain ⟨y,hy,rfl⟩:=List.mem_map.1 hx;exact (io h).2 y hy)
 have h3:=iZ h;rw [List.length_map] at h1 h2;unfold aM cA aX;simp only
 omega
theorem wT {ss:List (List Int)} {cs:List (Int×List Int)} {bs:List Int} {n:Int}:(jh ss cs bs n).length<=bs.length+1:=by
 unfold jh;by_cases h:lM ss cs bs n=true
 . rw [if_pos h]
   unfold lN;rw [List.length_append,List.length_cons,List.length_take,List.length_drop];omega
 rw [if_neg h];omega
theorem wU {ss:List (List Int)} {cs:List (Int×List Int)} {bs:List Int} {n:Int} (hM:bF ss cs bs=true):bF ss cs (jh ss cs bs n)=true:=by
 unfold jh;by_cases h:lM ss cs bs n=true
 . rw [if_pos h]
   exact nZ h
 rw [if_neg h];exact hM
theorem wV {ss:List (List Int)} {cs:List (Int×List Int)} {f:Bool} {bs:List Int} {n:Int} {sw:List Int}:(dS ss cs f bs n sw).length<=cs.length+1/\(dT ss cs f bs n sw).length<=bs.length:=by
 unfold dS dT;by_cases h:da ss cs f bs n sw=true
 . rw [if_pos h,if_pos h]
   exact ⟨by simp,ma _ _⟩
 rw [if_neg h,if_neg h];exact ⟨by omega,Nat.le_refl _⟩
theorem wr_mem {ss:List (List Int)} {cs:List (Int×List Int)} {f:Bool} {bs:List Int} {n:Int} {sw:List Int} (hM:bF ss cs bs=true):bF ss (dS ss cs f bs n sw) (dT ss cs f bs n sw)=true:=by
 unfold dS dT;by_cases h:da ss cs f bs n sw=true
 . rw [if_pos h,if_pos h]
   exact nY h
 rw [if_neg h,if_neg h];exact hM
def wW (w:World) (g:Nat) (a:Option Addr) (lb cb:Nat) (zs:List Int) (B:Nat) (wr:World) (j:Nat):Prop:=
 ∃(v0 v1 v3:Value) (ss:List (List Int)) (cs:List (Int×List Int)) (bs:List Int) (lo hi:Nat),j<=7/\cs.length+j<=7/\bs.length+j<=7/\3<=ss.length/\ss.length<=7/\bF ss cs bs=true /\
  Box wr B 55 #[v0,v1,.bool false,v3]/\(cu 119).Own wr lo hi [v0,v1,.bool false,v3] (ss,cs,false,bs)/\w.heap.size<lo/\hi<=wr.heap.size/\(hi<=B∨B<lo) /\
  Box wr w.heap.size 55 #[.slice none 0 0,.slice none 0 0,.bool false,.slice none 0 0]/\br wr g a lb cb zs/\But g (g+1) w wr
theorem jY {w w6:World} {g lb cb B j:Nat} {a:Option Addr} {zs:List Int} {v0 v1 v3 u0 u1 u3:Value} {ss:List (List Int)} {cs:List (Int×List Int)} {bs:List Int} {lo hi:Nat} (hj:j<=7) (hc:cs.length+j<=7) (hbn:bs.length+j<=7) (h3:3<=ss.length) (h7:ss.length<=7) (hM:bF ss cs bs=true) (xb:Box w6 B 55 #[v0,v1,.bool false,v3])
 (o:(cu 119).Own w6 lo hi [u0,u1,.bool false,u3] (ss,cs,false,bs)) (r1:w.heap.size<lo) (r2:hi<=w6.heap.size) (r3:hi<=B∨B<lo) (xr:Box w6 w.heap.size 55 #[.slice none 0 0,.slice none 0 0,.bool false,.slice none 0 0]) (hd:br w6 g a lb cb zs) (hb:But g (g+1) w w6) (hg:g<w.heap.size) (hB:w.heap.size<B):
 wW w g a lb cb zs B ((((w6.setCell ⟨B,0,none⟩ u0).setCell ⟨B,1,none⟩ u1).setCell ⟨B,2,none⟩ (.bool false)).setCell ⟨B,3,none⟩ u3) j:=by
 have hbt:But B (B+1) w6 ((((w6.setCell ⟨B,0,none⟩ u0).setCell ⟨B,1,none⟩ u1).setCell ⟨B,2,none⟩ (.bool false)).setCell ⟨B,3,none⟩ u3):=
  (((But.setCell (by omega) (by omega) _).trans (But.setCell (by omega) (by omega) _)).trans (But.setCell (by omega) (by omega) _)).trans (But.setCell (by omega) (by omega) _)
 have hz:=hb.size;have hz2:=hbt.size;have hbl:Below B w6 _:=⟨hbt.os,hbt.tape,hbt.output,hbt.size,fun k hk=>hbt.block k (by have:=xb.lt;omega) (.inl hk)⟩;exact ⟨u0,u1,u3,ss,cs,bs,lo,hi,hj,hc,hbn,h3,h7,hM,(((xb.set 0 u0).set 1 u1).set 2 (.bool false)).set 3 u3,o.but hbt (by omega),r1,by omega,r3,xr.below hbl hB,hd.lower hbl (by omega),hb.thenBelow (hbl.mono (by omega))⟩
theorem tJ {w:World} {g lb cb:Nat} {a:Option Addr} {zs:List Int} (h:br w g a lb cb zs):
 Calls Tryz.prog 94 #[.pointer (some ⟨g,0,none⟩)] w fun e w'=>∃v0 v1 v3 ss cs bs,e=.returned (.agg #[v0,v1,.bool false,v3])/\(cu 119).Own w' w.heap.size w'.heap.size [v0,v1,.bool false,v3] (ss,cs,false,bs)/\bF ss cs bs=true/\cs.length<=7/\bs.length<=7/\3<=ss.length/\ss.length<=7/\br w' g a lb cb zs/\But g (g+1) w w':=by
 have hg:=h.lt;go_enter Tryz.func94,Tryz.ntmps94
 go_wp2_with fail
 refine (bX (h.alloc _) 5 (by omega) (by omega)).mono ?_
 rintro e w1 ⟨n,rfl,hn0,hn1,hd1,hb1⟩;have gw:IntKind.i64.wrap (3+n)=3+n:=IntWalk.i64_in _ (by omega);have xr:Box w1 w.heap.size 55 #[.slice none 0 0,.slice none 0 0,.bool false,.slice none 0 0]:=(Box.new w _ _).kept (hb1.block _ (by simp) (by omega));have B1:=aa (((But.refl g (g+1) w).alloc _).trans hb1);have D1:=aa hd1;have X1:=aa xr;have z1:=xr.lt;clear hb1 hd1 xr h;go_wp2_with fail
 refine (gI _ _).mono ?_
 rintro e w2 ⟨a0,c0,rfl,o2,hb2⟩;have e2:∃l:Nat,3+n=(l:Int)/\3<=l/\l<=7/\(bC (3+n)).length=l:=by
  refine ⟨(3+n).toNat,by omega,by omega,by omega,?_⟩
  unfold bC;rw [if_pos ⟨by omega,by omega⟩,List.length_replicate]
 obtain ⟨l,hl1,hl2,hl3,hl4⟩:=e2;have hmb:=oe (n:=3+n) (by omega) (by omega);generalize bC (3+n)=ss0 at o2 hmb hl4 ⊢;rw [hl4] at o2;have o2':(cu 119).Own w2 w1.heap.size w2.heap.size [.slice a0 l c0,.slice none 0 0,.bool false,.slice none 0 0] (ss0,[],false,[]):=cH (l1:=w2.heap.size) (u1:=w2.heap.size) (l3:=w2.heap.size) (u3:=w2.heap.size) o2 ⟨[],.inl ⟨rfl,rfl,rfl⟩,by simp,by simp⟩ ⟨[],.inl ⟨rfl,rfl,rfl⟩,by simp,by simp⟩ (.inl (Nat.le_refl _)) (.inl (Nat.le_refl _)) (.inl (Nat.le_refl _)) ⟨Nat.le_refl _,Nat.le_refl _⟩ ⟨hb2.size,Nat.le_refl _⟩ ⟨hb2.size,Nat.le_refl _⟩;have z2:=hb2.size;have ba:Below w2.heap.size w2 (w2.alloc (.cells #[.slice a0 l c0,.slice none 0 0,.bool false,.slice none 0 0] 55)):=(Below.refl _ _).alloc (Nat.le_refl _) _;have yo:=Box.new w2 55 #[.slice a0 l c0,.slice none 0 0,.bool false,.slice none 0 0];have B3:=aa ((B1.out.thenBelow (hb2.mono (by omega))).thenBelow (ba.mono (by omega)));have D3:=aa ((D1.out.lower hb2 (by omega)).lower ba (by omega));have X3:=aa ((X1.out.below hb2 (by omega)).below ba (by omega));have O3:=aa (o2'.below ba);have Y3:=aa yo;have zo:=yo.lt;clear o2 o2' hb2 ba B1 D1 X1 yo gw hn0 hn1;go_wp2_with fail
 generalize w2.alloc (.cells #[.slice a0 l c0,.slice none 0 0,.bool false,.slice none 0 0] 55)=w3 at B3 D3 X3 O3 Y3 zo ⊢;refine (bX D3.out 8 (by omega) (by omega)).mono ?_
 rintro e w4 ⟨m,rfl,hm0,hm1,hd4,hb4⟩;obtain ⟨m,rfl⟩:=Int.eq_ofNat_of_zero_le hm0;have R4:wW w g a lb cb zs w2.heap.size w4 m:=⟨_,_,_,ss0,[],[],w1.heap.size,w2.heap.size,by omega,by simp;omega,by simp;omega,by omega,by omega,hmb,Y3.out.kept (hb4.block _ (by omega) (by omega)),O3.out.but hb4 (by omega),z1,by have:=hb4.size;omega,.inl (Nat.le_refl _),X3.out.kept (hb4.block _ (by omega) (by omega)),hd4,B3.out.trans hb4⟩;have zw:w.heap.size<w2.heap.size:=by omega
 clear hm0 hm1 hd4 hb4 B3 D3 X3 O3 Y3 hmb;go_wp2
 go_loopw [4] (fun i wr=>∃(j:Nat),i=.int .i64 j/\wW w g a lb cb zs w2.heap.size wr j) (fun i _=>(intOf i).toNat)
 case atStart=>exact ⟨m,rfl,R4⟩
 clear R4;obtain ⟨j,rfl,v0,v1,v3,ss,cs,bs,lo,hi,hj,hcl,hbl,hs3,hs7,hM,xb,ob,r1,r2,r3,xr,hd,hb⟩:=hrel;have zb:=xb.lt;by_cases hlt:0<j
 . obtain ⟨a0,l0,c0,a1,l1,c1,a3,l3,c3,hv0,hv1,hv3⟩:=cU ob
   subst hv0 hv1 hv3;have XB:=aa xb;have OB:=aa ob;have XR:=aa xr;have HD:=aa hd;have HB:=aa hb;have HM:=aa hM;clear xb ob xr hd hb hM;go_wp2_with fail
   refine (bX HD.out 6 (by omega) (by omega)).mono ?_
   rintro e w5 ⟨x,rfl,hx0,hx1,hd5,hb5⟩;have XB5:=aa (XB.out.kept (hb5.block _ (by omega) (by omega)));have OB5:=aa (OB.out.but hb5 (by omega));have XR5:=aa (XR.out.kept (hb5.block _ (by omega) (by omega)));have HB5:=aa (HB.out.trans hb5);have HD5:=aa hd5;have z5:=hb5.size;clear XB OB XR HB HD hd5 hb5;obtain ⟨q0,q1,q2,q3⟩:=XB5.out.cells4;by_cases x0:x=0
   . subst x0
     go_wp2_with fail
     obtain ⟨p0,p1,p3⟩:=eN OB5.out;refine (iG _ 119 _ _ _ _ _ _ _ _ _ ss cs false bs p0 p1 p3 (qY HM.out (by omega) (by omega))).mono ?_
     rintro e w6 ⟨u0,u1,u3,rfl,o6,hb6⟩;have e1:gW ss cs false bs=dJ ss cs:=by unfold gW;rw [HM.out];rfl
     have e2:ip ss cs false bs=[]:=by unfold ip;rw [HM.out];rfl
     rw [e1,e2] at o6;obtain ⟨d0,k0,f0,d1,k1,f1,d3,k3,f3,hv0,hv1,hv3⟩:=cU o6;subst hv0 hv1 hv3;have z6:=hb6.size;have xb6:Box w6 w2.heap.size 55 _:=XB5.out.below hb6 (by omega);have RN:=aa (jY (w:=w) (j:=j-1) (by omega) (by simp;omega) (by omega) (by rw [cD];omega) (by rw [cD];omega) (nX HM.out cs (fun _ h=>h)) xb6 o6 (by omega) (Nat.le_refl _) (.inr (by omega)) (XR5.out.below hb6 (by omega)) (HD5.out.lower hb6 (by omega)) (HB5.out.thenBelow (hb6.mono (by have:=HB5.out.size;omega))) hg zw);clear q0 q1 q2 q3 p0 p1 p3;obtain ⟨q0,q1,q2,q3⟩:=xb6.cells4;have fz:=xb6.frozen;clear o6 hb6 e1 e2 xb6;go_wp2
     go_roundw
     case rel=>exact ⟨j-1,by go_num,RN.out⟩
     case measure=>simp [intOf];omega
   have x0':(x==0)=false:=by simpa using x0
   by_cases x1:x=1
   . subst x1
     go_wp2_with fail
     have hS:w5.drew.cell? ⟨w2.heap.size,0,none⟩=some (.slice a0 l0 c0)/\w5.drew.cell? ⟨w2.heap.size,1,none⟩=some (.slice a1 l1 c1)/\w5.drew.cell? ⟨w2.heap.size,2,none⟩=some (.bool false)/\w5.drew.cell? ⟨w2.heap.size,3,none⟩=some (.slice a3 l3 c3):=XB5.out.cells4;have HLL:Hid (l0=ss.length):=((ag (eN OB5.out).1).1).symm;clear q0 q1 q2 q3;refine ao.start (S:=fun w'=>w'.cell? ⟨w2.heap.size,0,none⟩=some (.slice a0 l0 c0)/\w'.cell? ⟨w2.heap.size,1,none⟩=some (.slice a1 l1 c1)/\w'.cell? ⟨w2.heap.size,2,none⟩=some (.bool false)/\w'.cell? ⟨w2.heap.size,3,none⟩=some (.slice a3 l3 c3)) (k:=7) (by kernel_rfl) ?_
     refine ao.take (i:=0) (v:=?_) rfl (by kernel_rfl) (by kernel_rfl) (by kernel_rfl) (by kernel_rfl) (fun _ _ _ h=>h) (Or.inl ⟨by rfl,?_⟩) hS ?_
     rotate_left 1
     . (intro w hSw;(try dsimp only at hSw);go_split_ands;go_simp;first|done|with_reducible rfl)
     simp only [Act.put,List.setIfInBounds_toArray,List.set_cons_zero,List.set_cons_succ]
     refine ao.take (i:=1) (v:=?_) rfl (by kernel_rfl) (by kernel_rfl) (by kernel_rfl) (by kernel_rfl) (fun _ _ _ h=>h) (Or.inl ⟨by rfl,?_⟩) hS ?_
     rotate_left 1
     . (intro w hSw;(try dsimp only at hSw);go_split_ands;go_simp;first|done|with_reducible rfl)
     simp only [Act.put,List.setIfInBounds_toArray,List.set_cons_zero,List.set_cons_succ]
     refine ao.take (i:=2) (v:=?_) rfl (by kernel_rfl) (by kernel_rfl) (by kernel_rfl) (by kernel_rfl) (fun _ _ _ h=>h) (Or.inl ⟨by rfl,?_⟩) hS ?_
     rotate_left 1
     . (intro w hSw;(try dsimp only at hSw);go_split_ands;go_simp;first|done|with_reducible rfl)
     simp only [Act.put,List.setIfInBounds_toArray,List.set_cons_zero,List.set_cons_succ]
     refine ao.take (i:=3) (v:=?_) rfl (by kernel_rfl) (by kernel_rfl) (by kernel_rfl) (by kernel_rfl) (fun _ _ _ h=>h) (Or.inl ⟨by rfl,?_⟩) hS ?_
     rotate_left 1
     . (intro w hSw;(try dsimp only at hSw);go_split_ands;go_simp;first|done|with_reducible rfl)
     simp only [Act.put,List.setIfInBounds_toArray,List.set_cons_zero,List.set_cons_succ]
     refine ao.take (i:=4) (v:=?_) rfl (by kernel_rfl) (by kernel_rfl) (by kernel_rfl) (by kernel_rfl) (fun _ _ _ h=>h) (Or.inl ⟨by rfl,?_⟩) hS ?_
     rotate_left 1
     . (intro w hSw;(try dsimp only at hSw);go_split_ands;go_simp;first|done|with_reducible rfl)
     simp only [Act.put,List.setIfInBounds_toArray,List.set_cons_zero,List.set_cons_succ]
     refine ao.one (i:=5) (by kernel_rfl) rfl (fun K hK=>?_)
     go_simp
     refine (bX (w:=w5.drew) (HD5.out.lower (Below.refl w5.heap.size w5).drew HD5.out.lt) (l0:Int) (by omega) (by have:=HLL.out;omega)).mono ?_
     rintro e w6 ⟨y,rfl,hy0,hy1,hd6,hb6'⟩;have hb6:But g (g+1) w5 w6:=⟨hb6'.os,hb6'.tape,hb6'.output,hb6'.size,hb6'.block⟩;clear hb6';have XB6:=aa (XB5.out.kept (hb6.block _ (by omega) (by omega)));have OB6:=aa (OB5.out.but hb6 (by omega));have XR6:=aa (XR5.out.kept (hb6.block _ (by omega) (by omega)));have HB6:=aa (HB5.out.trans hb6);have HD6:=aa hd6;have z6:=hb6.size;clear XB5 OB5 XR5 HB5 HD5 hd6;clear hb6;have c6:=XB6.out.cells4;have hS6:w6.cell? ⟨w2.heap.size,0,none⟩=some (.slice a0 l0 c0)/\w6.cell? ⟨w2.heap.size,1,none⟩=some (.slice a1 l1 c1)/\w6.cell? ⟨w2.heap.size,2,none⟩=some (.bool false)/\w6.cell? ⟨w2.heap.size,3,none⟩=some (.slice a3 l3 c3):=c6;clear c6;go_wp2_with fail
     refine hK.out _ _ (fun _=>hS6) ?_
     clear hK K;refine ao.one (i:=6) (by kernel_rfl) rfl (fun K hK=>?_)
     go_simp
     obtain ⟨p0,p1,p3⟩:=eN OB6.out;refine (iD _ 119 _ _ _ _ _ _ _ _ _ ss cs false bs y p0 p1 p3 (qY HM.out (by omega) (by omega))).mono ?_
     rintro e w7 ⟨u0,u1,u3,rfl,o7,hb7⟩;obtain ⟨d0,k0,f0,d1,k1,f1,d3,k3,f3,hv0,hv1,hv3⟩:=cU o7;subst hv0 hv1 hv3;have z7:=hb7.size;have xb7:Box w7 w2.heap.size 55 _:=XB6.out.below hb7 (by omega);have RN:=aa (jY (w:=w) (j:=j-1) (by omega) (by omega) (by have:=wT (ss:=ss) (cs:=cs) (bs:=bs) (n:=y);omega) hs3 hs7 (wU HM.out) xb7 o7 (by omega) (Nat.le_refl _) (.inr (by omega)) (XR6.out.below hb7 (by omega)) (HD6.out.lower hb7 (by omega)) (HB6.out.thenBelow (hb7.mono (by have:=HB6.out.size;omega))) hg zw);have hS7:w7.cell? ⟨w2.heap.size,0,none⟩=some (.slice a0 l0 c0)/\w7.cell? ⟨w2.heap.size,1,none⟩=some (.slice a1 l1 c1)/\w7.cell? ⟨w2.heap.size,2,none⟩=some (.bool false)/\w7.cell? ⟨w2.heap.size,3,none⟩=some (.slice a3 l3 c3):=xb7.cells4;obtain ⟨q0,q1,q2,q3⟩:=xb7.cells4;have fz:=xb7.frozen;clear o7 hb7 xb7 p0 p1 p3;go_wp2_with fail
     refine hK.out _ _ (fun _=>hS7) ?_
     clear hK K;refine ao.one (i:=7) (by kernel_rfl) rfl (fun K hK=>?_)
     go_simp
     refine hK.out _ _ (fun h=>absurd rfl h) ?_
     clear hK K;refine ao.done (by kernel_rfl) ?_ _
     go_wp2
     go_roundw
     case rel=>exact ⟨j-1,by go_num,RN.out⟩
     case measure=>simp [intOf];omega
   have x1':(x==1)=false:=by simpa using x1
   go_wp2_with fail
   have hS:w5.drew.cell? ⟨w2.heap.size,0,none⟩=some (.slice a0 l0 c0)/\w5.drew.cell? ⟨w2.heap.size,1,none⟩=some (.slice a1 l1 c1)/\w5.drew.cell? ⟨w2.heap.size,2,none⟩=some (.bool false)/\w5.drew.cell? ⟨w2.heap.size,3,none⟩=some (.slice a3 l3 c3):=XB5.out.cells4;have HLL:Hid (l0=ss.length):=((ag (eN OB5.out).1).1).symm;clear q0 q1 q2 q3;refine bM.start (S:=fun w'=>w'.cell? ⟨w2.heap.size,0,none⟩=some (.slice a0 l0 c0)/\w'.cell? ⟨w2.heap.size,1,none⟩=some (.slice a1 l1 c1)/\w'.cell? ⟨w2.heap.size,2,none⟩=some (.bool false)/\w'.cell? ⟨w2.heap.size,3,none⟩=some (.slice a3 l3 c3)) (k:=12) (by kernel_rfl) ?_
   refine bM.take (i:=0) (v:=?_) rfl (by kernel_rfl) (by kernel_rfl) (by kernel_rfl) (by kernel_rfl) (fun _ _ _ h=>h) (Or.inl ⟨by rfl,?_⟩) hS ?_
   rotate_left 1
   . (intro w hSw;(try dsimp only at hSw);go_split_ands;go_simp;first|done|with_reducible rfl)
   simp only [Act.put,List.setIfInBounds_toArray,List.set_cons_zero,List.set_cons_succ]
   refine bM.take (i:=1) (v:=?_) rfl (by kernel_rfl) (by kernel_rfl) (by kernel_rfl) (by kernel_rfl) (fun _ _ _ h=>h) (Or.inl ⟨by rfl,?_⟩) hS ?_
   rotate_left 1
   . (intro w hSw;(try dsimp only at hSw);go_split_ands;go_simp;first|done|with_reducible rfl)
   simp only [Act.put,List.setIfInBounds_toArray,List.set_cons_zero,List.set_cons_succ]
   refine bM.take (i:=2) (v:=?_) rfl (by kernel_rfl) (by kernel_rfl) (by kernel_rfl) (by kernel_rfl) (fun _ _ _ h=>h) (Or.inl ⟨by rfl,?_⟩) hS ?_
   rotate_left 1
   . (intro w hSw;(try dsimp only at hSw);go_split_ands;go_simp;first|done|with_reducible rfl)
   simp only [Act.put,List.setIfInBounds_toArray,List.set_cons_zero,List.set_cons_succ]
   refine bM.take (i:=3) (v:=?_) rfl (by kernel_rfl) (by kernel_rfl) (by kernel_rfl) (by kernel_rfl) (fun _ _ _ h=>h) (Or.inl ⟨by rfl,?_⟩) hS ?_
   rotate_left 1
   . (intro w hSw;(try dsimp only at hSw);go_split_ands;go_simp;first|done|with_reducible rfl)
   simp only [Act.put,List.setIfInBounds_toArray,List.set_cons_zero,List.set_cons_succ]
   refine bM.take (i:=4) (v:=?_) rfl (by kernel_rfl) (by kernel_rfl) (by kernel_rfl) (by kernel_rfl) (fun _ _ _ h=>h) (Or.inl ⟨by rfl,?_⟩) hS ?_
   rotate_left 1
   . (intro w hSw;(try dsimp only at hSw);go_split_ands;go_simp;first|done|with_reducible rfl)
   simp only [Act.put,List.setIfInBounds_toArray,List.set_cons_zero,List.set_cons_succ]
   refine bM.take (i:=6) (v:=?_) rfl (by kernel_rfl) (by kernel_rfl) (by kernel_rfl) (by kernel_rfl) (fun _ _ _ h=>h) (Or.inl ⟨by rfl,?_⟩) hS ?_
   rotate_left 1
   . (intro w hSw;(try dsimp only at hSw);go_split_ands;go_simp;first|done|with_reducible rfl)
   simp only [Act.put,List.setIfInBounds_toArray,List.set_cons_zero,List.set_cons_succ]
   refine bM.one (i:=5) (by kernel_rfl) rfl (fun K hK=>?_)
   go_simp
   refine (bX (w:=w5.drew) (HD5.out.lower (Below.refl w5.heap.size w5).drew HD5.out.lt) (l0:Int) (by omega) (by have:=HLL.out;omega)).mono ?_
   rintro e w6 ⟨y,rfl,hy0,hy1,hd6,hb6'⟩;have hb6:But g (g+1) w5 w6:=⟨hb6'.os,hb6'.tape,hb6'.output,hb6'.size,hb6'.block⟩;clear hb6';have XB6:=aa (XB5.out.kept (hb6.block _ (by omega) (by omega)));have OB6:=aa (OB5.out.but hb6 (by omega));have XR6:=aa (XR5.out.kept (hb6.block _ (by omega) (by omega)));have HB6:=aa (HB5.out.trans hb6);have HD6:=aa hd6;have z6:=hb6.size;clear XB5 OB5 XR5 HB5 HD5 hd6;clear hb6;have c6:=XB6.out.cells4;have hS6:w6.cell? ⟨w2.heap.size,0,none⟩=some (.slice a0 l0 c0)/\w6.cell? ⟨w2.heap.size,1,none⟩=some (.slice a1 l1 c1)/\w6.cell? ⟨w2.heap.size,2,none⟩=some (.bool false)/\w6.cell? ⟨w2.heap.size,3,none⟩=some (.slice a3 l3 c3):=c6;clear c6;go_wp2_with fail
   refine hK.out _ _ (fun _=>hS6) ?_
   clear hK K;refine bM.one (i:=7) (by kernel_rfl) rfl (fun K hK=>?_)
   go_simp
   refine (lU HD6.out).mono ?_
   rintro e w8 ⟨vs,xs,rfl,hxl,hxa,hxo,hd8,hb8⟩;obtain ⟨ax,lx,cx,hvs,hos⟩:∃ax lx cx,vs=.slice ax lx cx/\aD.Rd w8 [.slice ax lx cx] xs:=by
    have h1:=(aS hxo).rd;obtain ⟨ax,cx,hv⟩:=aC h1;rw [hv] at h1;exact ⟨ax,_,cx,hv,h1⟩
   subst hvs;have HOS:=aa hos;have hlx:xs.length=lx:=(ag hos).1;clear hxo hos;have XB8:=aa (XB6.out.kept (hb8.block _ (by omega) (by omega)));have OB8:=aa (OB6.out.but hb8 (by omega));have XR8:=aa (XR6.out.kept (hb8.block _ (by omega) (by omega)));have HB8:=aa (HB6.out.trans hb8);have HD8:=aa hd8;have z8:=hb8.size;clear XB6 OB6 XR6 HB6 HD6 hd8;clear hb8;have c8:=XB8.out.cells4;have hS8:w8.cell? ⟨w2.heap.size,0,none⟩=some (.slice a0 l0 c0)/\w8.cell? ⟨w2.heap.size,1,none⟩=some (.slice a1 l1 c1)/\w8.cell? ⟨w2.heap.size,2,none⟩=some (.bool false)/\w8.cell? ⟨w2.heap.size,3,none⟩=some (.slice a3 l3 c3):=c8;clear c8;go_wp2_with fail
   refine hK.out _ _ (fun _=>hS8) ?_
   clear hK K;refine bM.one (i:=8) (by kernel_rfl) rfl (fun K hK=>?_)
   go_simp
   obtain ⟨p0,p1,p3⟩:=eN OB8.out;refine (ir _ 119 _ _ _ _ _ _ _ _ _ _ _ _ ss cs false bs y xs p0 p1 p3 HOS.out (qY HM.out (by omega) (by omega)) (by omega)).mono ?_
   rintro e w7 ⟨u0,u1,u3,rfl,o7,hb7⟩;obtain ⟨d0,k0,f0,d1,k1,f1,d3,k3,f3,hv0,hv1,hv3⟩:=cU o7;subst hv0 hv1 hv3;have z7:=hb7.size;have xb7:Box w7 w2.heap.size 55 _:=XB8.out.below hb7 (by omega);have RN:=aa (jY (w:=w) (j:=j-1) (by omega) (by have:=(wV (ss:=ss) (cs:=cs) (f:=false) (bs:=bs) (n:=y) (sw:=xs)).1;omega) (by have:=(wV (ss:=ss) (cs:=cs) (f:=false) (bs:=bs) (n:=y) (sw:=xs)).2;omega) hs3 hs7 (wr_mem HM.out) xb7 o7 (by omega) (Nat.le_refl _) (.inr (by omega)) (XR8.out.below hb7 (by omega)) (HD8.out.lower hb7 (by omega)) (HB8.out.thenBelow (hb7.mono (by have:=HB8.out.size;omega))) hg zw);have hS7:w7.cell? ⟨w2.heap.size,0,none⟩=some (.slice a0 l0 c0)/\w7.cell? ⟨w2.heap.size,1,none⟩=some (.slice a1 l1 c1)/\w7.cell? ⟨w2.heap.size,2,none⟩=some (.bool false)/\w7.cell? ⟨w2.heap.size,3,none⟩=some (.slice a3 l3 c3):=xb7.cells4;obtain ⟨q0,q1,q2,q3⟩:=xb7.cells4;have fz:=xb7.frozen;clear o7 hb7 xb7 p0 p1 p3;go_wp2_with fail
   refine hK.out _ _ (fun _=>hS7) ?_
   clear hK K;refine bM.take (i:=9) (v:=?_) rfl (by kernel_rfl) (by kernel_rfl) (by kernel_rfl) (by kernel_rfl) (fun _ _ _ h=>h) (Or.inl ⟨by rfl,?_⟩) hS7 ?_
   rotate_left 1
   . (intro w hSw;(try dsimp only at hSw);go_split_ands;go_simp;first|done|with_reducible rfl)
   simp only [Act.put,List.setIfInBounds_toArray,List.set_cons_zero,List.set_cons_succ]
   refine bM.take (i:=10) (v:=?_) rfl (by kernel_rfl) (by kernel_rfl) (by kernel_rfl) (by kernel_rfl) (fun _ _ _ h=>h) (Or.inl ⟨by rfl,?_⟩) hS7 ?_
   rotate_left 1
   . (intro w hSw;(try dsimp only at hSw);go_split_ands;go_simp;first|done|with_reducible rfl)
   simp only [Act.put,List.setIfInBounds_toArray,List.set_cons_zero,List.set_cons_succ]
   refine bM.two (i:=11) (i':=12) (by kernel_rfl) rfl rfl (fun K hK=>?_) (fun K hK=>?_)
   . go_simp
     refine hK.out _ _ (fun _=>hS7) ?_
     clear hK K;refine bM.one (i:=12) (by kernel_rfl) rfl (fun K hK=>?_)
     go_simp
     refine hK.out _ _ (fun h=>absurd rfl h) ?_
     clear hK K;refine bM.done (by kernel_rfl) ?_ _
     go_wp2
     go_roundw
     case rel=>exact ⟨j-1,by go_num,RN.out⟩
     case measure=>simp [intOf];omega
   go_simp
   refine hK.out _ _ (fun h=>absurd rfl h) ?_
   clear hK K;refine bM.late (i:=11) (by kernel_rfl) rfl (by kernel_rfl) (fun K hK=>?_)
   go_simp
   refine hK.out _ _ ?_
   clear hK K;refine bM.done (by kernel_rfl) ?_ _
   go_wp2
   go_roundw
   case rel=>exact ⟨j-1,by go_num,RN.out⟩
   case measure=>simp [intOf];omega
 have e0:j=0:=by omega
 subst e0;obtain ⟨a0,l0,c0,a1,l1,c1,a3,l3,c3,hv0,hv1,hv3⟩:=cU ob;subst hv0 hv1 hv3;obtain ⟨q0,q1,q2,q3⟩:=xb.cells4;obtain ⟨p0,p1,p2,p3⟩:=xr.cells4;have fz:=xr.frozen;have hbt:But w.heap.size (w.heap.size+1) wr ((((wr.setCell ⟨w.heap.size,0,none⟩ (.slice a0 l0 c0)).setCell ⟨w.heap.size,1,none⟩ (.slice a1 l1 c1)).setCell ⟨w.heap.size,2,none⟩ (.bool false)).setCell ⟨w.heap.size,3,none⟩ (.slice a3 l3 c3)):=
  (((But.setCell (by omega) (by omega) _).trans (But.setCell (by omega) (by omega) _)).trans (But.setCell (by omega) (by omega) _)).trans (But.setCell (by omega) (by omega) _)
 have z99:=hbt.size;have hbl':Below w.heap.size wr _:=⟨hbt.os,hbt.tape,hbt.output,hbt.size,fun k hk=>hbt.block k (by omega) (.inl hk)⟩;have FO:=aa ((ob.but hbt (by omega)).widen (lo':=w.heap.size) (by omega) (Nat.le_trans r2 hbt.size));have FD:=aa (hd.lower hbl' hg);have FB:=aa (hb.thenBelow hbl');clear hbt hbl' ob hd hb xb xr;go_wp2
 refine bodyPost_ret (v:=.agg #[.slice a0 l0 c0,.slice a1 l1 c1,.bool false,.slice a3 l3 c3]) (by simp [results,Tryz.results94,go_sem,p0,p1,p2,p3]) rfl ?_
 exact ⟨_,_,_,rfl,ss,cs,bs,FO.out,hM,by omega,by omega,hs3,hs7,FD.out,FB.out⟩
end Go.Proofs.YtgjomldcnjjpaaaGreat
