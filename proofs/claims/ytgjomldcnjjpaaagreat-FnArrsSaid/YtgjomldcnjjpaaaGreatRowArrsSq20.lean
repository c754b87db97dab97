/-
 The walks of the specification's looks whether an array is right, and whether a disk of it lives at a stripe. Condition: it weighs at most 2097152.
-/
import Derived.Test.YtgjomldcnjjpaaaGreatRowArrsSq1
import Derived.Test.YtgjomldcnjjpaaaGreatRowArrsSq15

set_option maxRecDepth 100000
set_option maxHeartbeats 8000000
set_option linter.unusedSimpArgs false

namespace Go.Proofs.YtgjomldcnjjpaaaGreat
open Go.RowKit

theorem eA {x:aq} {ds:List (Int×List Int)} {i:Nat} {d:Int×List Int} (hx:ds[i]?=some d) (h:dI x ds i d=false):ey x ds=false:=gK hx h
theorem tQ {x:aq} {ds:List (Int×List Int)} {i:Nat} {y:Int} {zs:List Int} (h:inB y 0 (x.s-1)=false):dI x ds i (y,zs)=false:=by unfold dI;rw [h];rfl
theorem qy {x:aq} {ds:List (Int×List Int)} {i:Nat} {y:Int} {zs:List Int} (h:¬(zs.length:Int)=x.n-1):dI x ds i (y,zs)=false:=by unfold dI;simp [h]
theorem qz {x:aq} {ds:List (Int×List Int)} {i:Nat} {y:Int} {zs:List Int} (h:dg zs=false):dI x ds i (y,zs)=false:=by unfold dI;simp [h]
theorem tR {x:aq} {ds:List (Int×List Int)} {y:Int} {zs:List Int} (h1:inB y 0 (x.s-1)=true) (h2:(zs.length:Int)=x.n-1) (h3:dg zs=true):dI x ds 0 (y,zs)=true:=by unfold dI;simp [h1,h2,h3]
theorem tS {x:aq} {ds:List (Int×List Int)} {p:Nat} {y:Int} {zs:List Int} {q:Int×List Int} (h1:inB y 0 (x.s-1)=true) (h2:(zs.length:Int)=x.n-1) (h3:dg zs=true) (hq:ds[p]?=some q):dI x ds (p+1) (y,zs)=decide (q.1<y):=by
 unfold dI;rw [h1,h3];have:ds.getD (p+1-1) (0,[])=q:=by rw [Nat.add_sub_cancel,List.getD_eq_getElem?_getD,hq];rfl
 simp only [h2,decide_true,Bool.true_and,this]
 simp
theorem rF (w:World) (G:TypeId) (x:aq) (am ad:Option Addr) (nm cm nd cd:Nat) (ds:List (Int×List Int)) (h0:(aW G).Rd w [.slice ad nd cd] ds) (hw:aX ds<=2097152) (hg:bL x.n x.s=true):
 Calls Tryz.prog 36 #[.agg #[.int .i64 x.id,.int .i64 x.n,.int .i64 x.s,.slice am nm cm,.int .i64 x.lost,.int .i64 x.xW,.int .i64 x.seq,.int .i64 x.tail,.int .i64 x.gen,.slice ad nd cd,.int .i64 x.xY,.bool x.down,.bool x.xX]] w fun e w'=>e=.returned (.bool (ey x ds))/\Below w.heap.size w w':=by
 obtain ⟨hl,hc,hm⟩:=ag h0;obtain ⟨g1,g2,g3,g4⟩:=aB.1 hg;have hA:=af w (.cells #[.int .i64 x.id,.int .i64 x.n,.int .i64 x.s,.slice am nm cm,.int .i64 x.lost,.int .i64 x.xW,.int .i64 x.seq,.int .i64 x.tail,.int .i64 x.gen,.slice ad nd cd,.int .i64 x.xY,.bool x.down,.bool x.xX] 31);have X:=Box.new w 31 #[.int .i64 x.id,.int .i64 x.n,.int .i64 x.s,.slice am nm cm,.int .i64 x.lost,.int .i64 x.xW,.int .i64 x.seq,.int .i64 x.tail,.int .i64 x.gen,.slice ad nd cd,.int .i64 x.xY,.bool x.down,.bool x.xX];have zA:=X.lt;have hnd:nd<=2097152:=by unfold aX at hw;omega
 have h1:=h0.below hA;have hws:IntKind.i64.wrap (x.s-1)=x.s-1:=IntWalk.i64_in _ (by omega);have hwn:IntKind.i64.wrap (x.n-1)=x.n-1:=IntWalk.i64_in _ (by omega);go_enter Tryz.func36,Tryz.ntmps36
 go_wp2
 generalize w.alloc (.cells #[.int .i64 x.id,.int .i64 x.n,.int .i64 x.s,.slice am nm cm,.int .i64 x.lost,.int .i64 x.xW,.int .i64 x.seq,.int .i64 x.tail,.int .i64 x.gen,.slice ad nd cd,.int .i64 x.xY,.bool x.down,.bool x.xX] 31)=W at hA X zA h1 ⊢;go_loopw [3] (fun i wr=>∃j:Nat,j<=nd/\i=.int .i64 j/\(∀(q:Nat) (d:Int×List Int),q<j->ds[q]?=some d->dI x ds q d=true)/\Below W.heap.size W wr) (fun i _=>nd-(intOf i).toNat)
 case atStart=>exact ⟨0,Nat.zero_le _,rfl,fun q d hq=>by omega,Below.refl _ _⟩
 obtain ⟨j,hj,rfl,hall,hb⟩:=hrel;have Xr:=X.below hb zA;obtain ⟨k0,k1,k2,k3,k4,k5,k6,k7,k8,k9,k10,k11,k12⟩:=Xr.cells13;by_cases hjn:j<nd
 . rcases cW rfl h1 with h0'|⟨b,off,rfl,hbl,hcs⟩
   . omega
   have hdj:ds[j]?=some (ds[j]'(by omega)):=List.getElem?_eq_getElem (by omega);generalize ds[j]'(by omega)=d at hdj;obtain ⟨v0,v1,hv0,hv1,hrv⟩:=hcs j d hdj;obtain ⟨rfl,hrw⟩:=eL hrv;obtain ⟨av,cv,rfl⟩:=aC hrw;obtain ⟨y,zs⟩:=d;simp only at hv0 hv1 hrw hrv
   have u0:=(hb.cell (p:=⟨b,off+j*2,none⟩) hbl).trans hv0;have u1:=(hb.cell (p:=⟨b,off+j*2+1,none⟩) hbl).trans hv1;have i1:(0:Int)<=(j:Int):=by omega
   have i2:(j:Int)<(nd:Int):=by omega
   have hwz:zs.length<=2097152:=Nat.le_trans (cK hdj) hw;have HDJ:=aa hdj;have b1:=af wr (.cells #[.int .i64 y,.slice av zs.length cv] 93);have Y1:=Box.new wr 93 #[.int .i64 y,.slice av zs.length cv];have X1:=Xr.below b1 Xr.lt;have RZ:=(aR ((hrw.below hb).below b1)).1;have B1:=hb.trans (b1.mono hb.size);obtain ⟨y0,y1⟩:=Y1.cells2;obtain ⟨e0,e1,e2,e3,e4,e5,e6,e7,e8,e9,e10,e11,e12⟩:=X1.cells13;have hq:∀(p:Nat) (q:Int×List Int),ds[p]?=some q->(wr.alloc (.cells #[.int .i64 y,.slice av zs.length cv] 93)).cell? ⟨b,off+p*2,none⟩=some (.int .i64 q.1):=fun p q hpq=>by
    obtain ⟨c0,c1,hc0,hc1,hrc⟩:=hcs p q hpq;obtain ⟨rfl,_⟩:=eL hrc;exact (B1.cell (p:=⟨b,off+p*2,none⟩) hbl).trans hc0
   have HQ:=aa hq;clear hcs hv0 hv1 hrv hrw hdj hq b1 e0 e3 e4 e5 e6 e7 e8 e10 e11 e12;cases hI:inB y 0 (x.s-1)
   . skip
     go_wp2_with fail
     generalize wr.alloc (.cells #[.int .i64 y,.slice av zs.length cv] 93)=w1 at X1 Y1 RZ B1 y0 y1 e1 e2 e9 HQ ⊢;refine wp_region_held_drew (S:=fun w'=>w'.cell? ⟨wr.heap.size,0,none⟩=some (.int .i64 y)/\w'.cell? ⟨wr.heap.size,1,none⟩=some (.slice av zs.length cv)/\w'.cell? ⟨w.heap.size,1,none⟩=some (.int .i64 x.n)/\w'.cell? ⟨w.heap.size,2,none⟩=some (.int .i64 x.s)/\w'.cell? ⟨w.heap.size,9,none⟩=some (.slice (some ⟨b,off,none⟩) nd cd)) (by kernel_rfl) ?_ (fun xV=>?_)
     . exact ⟨y0,y1,e1,e2,e9⟩
     refine ae 0 xV ?_
     refine ae 1 xV ?_
     refine ae 2 xV ?_
     refine ae 3 xV ?_
     refine ae 4 xV ?_
     refine ae 5 xV ?_
     refine aw (i:=6) (by kernel_rfl) rfl (by kernel_rfl) (fun K hK=>?_)
     go_simp
     refine (aE _ _ _ _).mono ?_
     rintro e w2 ⟨rfl,hw2⟩;subst hw2;rw [hI];go_wp2_with fail
     clear xV;refine hK.out _ _ ?_ (fun xV=>?_)
     . exact ⟨y0,y1,e1,e2,e9⟩
     clear hK K;refine ae 7 xV ?_
     refine ae 8 xV ?_
     refine au 9 xV ?_
     refine au 10 xV ?_
     refine au 11 xV ?_
     refine au 12 xV ?_
     refine au 13 xV ?_
     refine au 14 xV ?_
     refine au 15 xV ?_
     refine au 16 xV ?_
     refine ae 17 xV ?_
     refine ae 18 xV ?_
     refine au 19 xV ?_
     refine au 20 xV ?_
     refine gp (i:=21) (by kernel_rfl) rfl (by kernel_rfl) xV ?_
     simp only [Act.put,List.setIfInBounds_toArray,List.set_cons_zero,List.set_cons_succ]
     refine au 22 xV ?_
     refine ae 23 xV ?_
     refine ae 24 xV ?_
     refine au 25 xV ?_
     refine au 26 xV ?_
     refine au 27 xV ?_
     refine au 28 xV ?_
     refine au 29 xV ?_
     refine au 30 xV ?_
     refine au 31 xV ?_
     refine au 32 xV ?_
     refine au 33 xV ?_
     refine au 34 xV ?_
     refine au 35 xV ?_
     refine au 36 xV ?_
     refine au 37 xV ?_
     refine au 38 xV ?_
     refine ae 39 xV ?_
     refine wpAnyH_done (by kernel_rfl) ?_ _
     clear xV;have HB:=aa (hA.trans (B1.drew.mono hA.size));have HE:=aa (eA (x:=x) HDJ.out (tQ hI));go_wp2
     go_ret
     exact ⟨ah HE.out.symm,HB.out⟩
   by_cases hL:(zs.length:Int)=x.n-1
   . have hL1:((zs.length:Int)==x.n-1)=true:=by simpa using hL
     have hL2:((zs.length:Int) !=x.n-1)=false:=by simpa using hL
     have HL:=aa hL;clear hL;cases hZ:dg zs
     . skip
       go_wp2_with fail
       generalize wr.alloc (.cells #[.int .i64 y,.slice av zs.length cv] 93)=w1 at X1 Y1 RZ B1 y0 y1 e1 e2 e9 HQ ⊢;refine wp_region_held_drew (S:=fun w'=>w'.cell? ⟨wr.heap.size,0,none⟩=some (.int .i64 y)/\w'.cell? ⟨wr.heap.size,1,none⟩=some (.slice av zs.length cv)/\w'.cell? ⟨w.heap.size,1,none⟩=some (.int .i64 x.n)/\w'.cell? ⟨w.heap.size,2,none⟩=some (.int .i64 x.s)/\w'.cell? ⟨w.heap.size,9,none⟩=some (.slice (some ⟨b,off,none⟩) nd cd)) (by kernel_rfl) ?_ (fun xV=>?_)
       . exact ⟨y0,y1,e1,e2,e9⟩
       refine ae 0 xV ?_
       refine ae 1 xV ?_
       refine ae 2 xV ?_
       refine ae 3 xV ?_
       refine ae 4 xV ?_
       refine ae 5 xV ?_
       refine aw (i:=6) (by kernel_rfl) rfl (by kernel_rfl) (fun K hK=>?_)
       go_simp
       refine (aE _ _ _ _).mono ?_
       rintro e w2 ⟨rfl,hw2⟩;subst hw2;rw [hI];go_wp2_with fail
       clear xV;refine hK.out _ _ ?_ (fun xV=>?_)
       . exact ⟨y0,y1,e1,e2,e9⟩
       clear hK K;refine ae 7 xV ?_
       refine ae 8 xV ?_
       refine ae 9 xV ?_
       refine ae 10 xV ?_
       refine ae 11 xV ?_
       refine ae 12 xV ?_
       refine ae 13 xV ?_
       refine ae 14 xV ?_
       refine ae 15 xV ?_
       refine ae 16 xV ?_
       refine ae 17 xV ?_
       refine ae 18 xV ?_
       refine ae 19 xV ?_
       refine ae 20 xV ?_
       refine aw (i:=21) (by kernel_rfl) rfl (by kernel_rfl) (fun K hK=>?_)
       go_simp
       refine (dX _ _ _ _ zs rfl RZ.draw hwz).mono ?_
       rintro e w2 ⟨rfl,hw2⟩;subst hw2;rw [hZ];go_wp2_with fail
       clear xV;refine hK.out _ _ ?_ (fun xV=>?_)
       . exact ⟨y0,y1,e1,e2,e9⟩
       clear hK K;refine ae 22 xV ?_
       refine ae 23 xV ?_
       refine ae 24 xV ?_
       refine au 25 xV ?_
       refine au 26 xV ?_
       refine au 27 xV ?_
       refine au 28 xV ?_
       refine au 29 xV ?_
       refine au 30 xV ?_
       refine au 31 xV ?_
       refine au 32 xV ?_
       refine au 33 xV ?_
       refine au 34 xV ?_
       refine au 35 xV ?_
       refine au 36 xV ?_
       refine au 37 xV ?_
       refine au 38 xV ?_
       refine ae 39 xV ?_
       refine wpAnyH_done (by kernel_rfl) ?_ _
       clear xV;have HB:=aa (hA.trans (B1.drew.mono hA.size));have HE:=aa (eA (x:=x) HDJ.out (qz hZ));go_wp2
       go_ret
       exact ⟨ah HE.out.symm,HB.out⟩
     by_cases hj0:j=0
     . subst hj0
       simp only [Nat.zero_mul,Nat.add_zero] at u0 u1
       go_wp2_with fail
       generalize wr.alloc (.cells #[.int .i64 y,.slice av zs.length cv] 93)=w1 at X1 Y1 RZ B1 y0 y1 e1 e2 e9 HQ ⊢;refine wp_region_held_drew (S:=fun w'=>w'.cell? ⟨wr.heap.size,0,none⟩=some (.int .i64 y)/\w'.cell? ⟨wr.heap.size,1,none⟩=some (.slice av zs.length cv)/\w'.cell? ⟨w.heap.size,1,none⟩=some (.int .i64 x.n)/\w'.cell? ⟨w.heap.size,2,none⟩=some (.int .i64 x.s)/\w'.cell? ⟨w.heap.size,9,none⟩=some (.slice (some ⟨b,off,none⟩) nd cd)) (by kernel_rfl) ?_ (fun xV=>?_)
       . exact ⟨y0,y1,e1,e2,e9⟩
       refine ae 0 xV ?_
       refine ae 1 xV ?_
       refine ae 2 xV ?_
       refine ae 3 xV ?_
       refine ae 4 xV ?_
       refine ae 5 xV ?_
       refine aw (i:=6) (by kernel_rfl) rfl (by kernel_rfl) (fun K hK=>?_)
       go_simp
       refine (aE _ _ _ _).mono ?_
       rintro e w2 ⟨rfl,hw2⟩;subst hw2;rw [hI];go_wp2_with fail
       clear xV;refine hK.out _ _ ?_ (fun xV=>?_)
       . exact ⟨y0,y1,e1,e2,e9⟩
       clear hK K;refine ae 7 xV ?_
       refine ae 8 xV ?_
       refine ae 9 xV ?_
       refine ae 10 xV ?_
       refine ae 11 xV ?_
       refine ae 12 xV ?_
       refine ae 13 xV ?_
       refine ae 14 xV ?_
       refine ae 15 xV ?_
       refine ae 16 xV ?_
       refine ae 17 xV ?_
       refine ae 18 xV ?_
       refine ae 19 xV ?_
       refine ae 20 xV ?_
       refine aw (i:=21) (by kernel_rfl) rfl (by kernel_rfl) (fun K hK=>?_)
       go_simp
       refine (dX _ _ _ _ zs rfl RZ.draw hwz).mono ?_
       rintro e w2 ⟨rfl,hw2⟩;subst hw2;rw [hZ];go_wp2_with fail
       clear xV;refine hK.out _ _ ?_ (fun xV=>?_)
       . exact ⟨y0,y1,e1,e2,e9⟩
       clear hK K;refine ae 22 xV ?_
       refine ae 23 xV ?_
       refine ae 24 xV ?_
       refine ae 25 xV ?_
       refine ae 26 xV ?_
       refine ae 27 xV ?_
       refine au 28 xV ?_
       refine au 29 xV ?_
       refine au 30 xV ?_
       refine au 31 xV ?_
       refine au 32 xV ?_
       refine au 33 xV ?_
       refine au 34 xV ?_
       refine au 35 xV ?_
       refine au 36 xV ?_
       refine au 37 xV ?_
       refine ae 38 xV ?_
       refine ae 39 xV ?_
       refine wpAnyH_done (by kernel_rfl) ?_ _
       clear xV;have HB:=aa B1.drew;have hat:dI x ds (0) (y,zs)=true:=tR hI HL.out hZ;go_wp2
       go_roundw
       case rel=>exact ⟨0+1,by omega,by go_num,fun q d hq hm'=>by
        rcases Nat.lt_or_ge q (0) with h|h
        . exact hall q d h hm'
        obtain rfl:q=0:=by omega
        rw [HDJ.out] at hm';cases hm';exact hat,HB.out⟩
       case measure=>simp [intOf];omega
     obtain ⟨p,rfl⟩:∃p,j=p+1:=⟨j-1,by omega⟩;have hpq:ds[p]?=some (ds[p]'(by omega)):=List.getElem?_eq_getElem (by omega);generalize ds[p]'(by omega)=q at hpq;have hE:=tS hI HL.out hZ hpq;have qc:=HQ.out p q hpq;obtain ⟨s,zq⟩:=q;simp only at qc hE
     have HE5:=aa hE;clear hpq hE;have j1:IntKind.i64.wrap (((p+1:Nat):Int)-1)=(p:Int):=by rw [IntWalk.i64_in _ (by omega)];omega
     have j2:IntKind.i64.wrap ((p:Int)+1-1)=(p:Int):=by rw [IntWalk.i64_in _ (by omega)];omega
     have j3:IntKind.i64.wrap (p:Int)=(p:Int):=IntWalk.i64_in _ (by omega);have j4:(0:Int)<=(p:Int):=by omega
     have j5:(p:Int)<(nd:Int):=by omega
     have j6:(0:Int)<((p+1:Nat):Int):=by omega
     by_cases hlt:s<y
     . have hd1:decide (s<y)=true:=by simpa using hlt
       have hge:¬y<=s:=by omega
       go_wp2_with fail
       generalize wr.alloc (.cells #[.int .i64 y,.slice av zs.length cv] 93)=w1 at X1 Y1 RZ B1 y0 y1 e1 e2 e9 HQ qc ⊢;refine wp_region_held_drew (S:=fun w'=>w'.cell? ⟨wr.heap.size,0,none⟩=some (.int .i64 y)/\w'.cell? ⟨wr.heap.size,1,none⟩=some (.slice av zs.length cv)/\w'.cell? ⟨w.heap.size,1,none⟩=some (.int .i64 x.n)/\w'.cell? ⟨w.heap.size,2,none⟩=some (.int .i64 x.s)/\w'.cell? ⟨w.heap.size,9,none⟩=some (.slice (some ⟨b,off,none⟩) nd cd)/\w'.cell? ⟨b,off+p*2,none⟩=some (.int .i64 s)) (by kernel_rfl) ?_ (fun xV=>?_)
       . exact ⟨y0,y1,e1,e2,e9,qc⟩
       refine ae 0 xV ?_
       refine ae 1 xV ?_
       refine ae 2 xV ?_
       refine ae 3 xV ?_
       refine ae 4 xV ?_
       refine ae 5 xV ?_
       refine aw (i:=6) (by kernel_rfl) rfl (by kernel_rfl) (fun K hK=>?_)
       go_simp
       refine (aE _ _ _ _).mono ?_
       rintro e w2 ⟨rfl,hw2⟩;subst hw2;rw [hI];go_wp2_with fail
       clear xV;refine hK.out _ _ ?_ (fun xV=>?_)
       . exact ⟨y0,y1,e1,e2,e9,qc⟩
       clear hK K;refine ae 7 xV ?_
       refine ae 8 xV ?_
       refine ae 9 xV ?_
       refine ae 10 xV ?_
       refine ae 11 xV ?_
       refine ae 12 xV ?_
       refine ae 13 xV ?_
       refine ae 14 xV ?_
       refine ae 15 xV ?_
       refine ae 16 xV ?_
       refine ae 17 xV ?_
       refine ae 18 xV ?_
       refine ae 19 xV ?_
       refine ae 20 xV ?_
       refine aw (i:=21) (by kernel_rfl) rfl (by kernel_rfl) (fun K hK=>?_)
       go_simp
       refine (dX _ _ _ _ zs rfl RZ.draw hwz).mono ?_
       rintro e w2 ⟨rfl,hw2⟩;subst hw2;rw [hZ];go_wp2_with fail
       clear xV;refine hK.out _ _ ?_ (fun xV=>?_)
       . exact ⟨y0,y1,e1,e2,e9,qc⟩
       clear hK K;refine ae 22 xV ?_
       refine ae 23 xV ?_
       refine ae 24 xV ?_
       refine ae 25 xV ?_
       refine ae 26 xV ?_
       refine ae 27 xV ?_
       refine ae 28 xV ?_
       refine ae 29 xV ?_
       refine ae 30 xV ?_
       refine ae 31 xV ?_
       refine ae 32 xV ?_
       refine ae 33 xV ?_
       refine ae 34 xV ?_
       refine ae 35 xV ?_
       refine ae 36 xV ?_
       refine ae 37 xV ?_
       refine ae 38 xV ?_
       refine ae 39 xV ?_
       refine wpAnyH_done (by kernel_rfl) ?_ _
       clear xV;have HB:=aa B1.drew;have hat:dI x ds (p+1) (y,zs)=true:=HE5.out.trans hd1;go_wp2
       go_roundw
       case rel=>exact ⟨p+1+1,by omega,by go_num,fun q d hq hm'=>by
        rcases Nat.lt_or_ge q (p+1) with h|h
        . exact hall q d h hm'
        obtain rfl:q=p+1:=by omega
        rw [HDJ.out] at hm';cases hm';exact hat,HB.out⟩
       case measure=>simp [intOf];omega
     have hd1:decide (s<y)=false:=by simpa using hlt
     have hge:y<=s:=by omega
     go_wp2_with fail
     generalize wr.alloc (.cells #[.int .i64 y,.slice av zs.length cv] 93)=w1 at X1 Y1 RZ B1 y0 y1 e1 e2 e9 HQ qc ⊢;refine wp_region_held_drew (S:=fun w'=>w'.cell? ⟨wr.heap.size,0,none⟩=some (.int .i64 y)/\w'.cell? ⟨wr.heap.size,1,none⟩=some (.slice av zs.length cv)/\w'.cell? ⟨w.heap.size,1,none⟩=some (.int .i64 x.n)/\w'.cell? ⟨w.heap.size,2,none⟩=some (.int .i64 x.s)/\w'.cell? ⟨w.heap.size,9,none⟩=some (.slice (some ⟨b,off,none⟩) nd cd)/\w'.cell? ⟨b,off+p*2,none⟩=some (.int .i64 s)) (by kernel_rfl) ?_ (fun xV=>?_)
     . exact ⟨y0,y1,e1,e2,e9,qc⟩
     refine ae 0 xV ?_
     refine ae 1 xV ?_
     refine ae 2 xV ?_
     refine ae 3 xV ?_
     refine ae 4 xV ?_
     refine ae 5 xV ?_
     refine aw (i:=6) (by kernel_rfl) rfl (by kernel_rfl) (fun K hK=>?_)
     go_simp
     refine (aE _ _ _ _).mono ?_
     rintro e w2 ⟨rfl,hw2⟩;subst hw2;rw [hI];go_wp2_with fail
     clear xV;refine hK.out _ _ ?_ (fun xV=>?_)
     . exact ⟨y0,y1,e1,e2,e9,qc⟩
     clear hK K;refine ae 7 xV ?_
     refine ae 8 xV ?_
     refine ae 9 xV ?_
     refine ae 10 xV ?_
     refine ae 11 xV ?_
     refine ae 12 xV ?_
     refine ae 13 xV ?_
     refine ae 14 xV ?_
     refine ae 15 xV ?_
     refine ae 16 xV ?_
     refine ae 17 xV ?_
     refine ae 18 xV ?_
     refine ae 19 xV ?_
     refine ae 20 xV ?_
     refine aw (i:=21) (by kernel_rfl) rfl (by kernel_rfl) (fun K hK=>?_)
     go_simp
     refine (dX _ _ _ _ zs rfl RZ.draw hwz).mono ?_
     rintro e w2 ⟨rfl,hw2⟩;subst hw2;rw [hZ];go_wp2_with fail
     clear xV;refine hK.out _ _ ?_ (fun xV=>?_)
     . exact ⟨y0,y1,e1,e2,e9,qc⟩
     clear hK K;refine ae 22 xV ?_
     refine ae 23 xV ?_
     refine ae 24 xV ?_
     refine ae 25 xV ?_
     refine ae 26 xV ?_
     refine ae 27 xV ?_
     refine ae 28 xV ?_
     refine ae 29 xV ?_
     refine ae 30 xV ?_
     refine ae 31 xV ?_
     refine ae 32 xV ?_
     refine ae 33 xV ?_
     refine ae 34 xV ?_
     refine ae 35 xV ?_
     refine ae 36 xV ?_
     refine ae 37 xV ?_
     refine ae 38 xV ?_
     refine ae 39 xV ?_
     refine wpAnyH_done (by kernel_rfl) ?_ _
     clear xV;have HB:=aa (hA.trans (B1.drew.mono hA.size));have HE:=aa (eA (x:=x) HDJ.out (HE5.out.trans hd1));go_wp2
     go_ret
     exact ⟨ah HE.out.symm,HB.out⟩
   have hL1:((zs.length:Int)==x.n-1)=false:=by simpa using hL
   have hL2:((zs.length:Int) !=x.n-1)=true:=by simpa using hL
   have HL:=aa hL;clear hL;go_wp2_with fail
   generalize wr.alloc (.cells #[.int .i64 y,.slice av zs.length cv] 93)=w1 at X1 Y1 RZ B1 y0 y1 e1 e2 e9 HQ ⊢;refine wp_region_held_drew (S:=fun w'=>w'.cell? ⟨wr.heap.size,0,none⟩=some (.int .i64 y)/\w'.cell? ⟨wr.heap.size,1,none⟩=some (.slice av zs.length cv)/\w'.cell? ⟨w.heap.size,1,none⟩=some (.int .i64 x.n)/\w'.cell? ⟨w.heap.size,2,none⟩=some (.int .i64 x.s)/\w'.cell? ⟨w.heap.size,9,none⟩=some (.slice (some ⟨b,off,none⟩) nd cd)) (by kernel_rfl) ?_ (fun xV=>?_)
   . exact ⟨y0,y1,e1,e2,e9⟩
   refine ae 0 xV ?_
   refine ae 1 xV ?_
   refine ae 2 xV ?_
   refine ae 3 xV ?_
   refine ae 4 xV ?_
   refine ae 5 xV ?_
   refine aw (i:=6) (by kernel_rfl) rfl (by kernel_rfl) (fun K hK=>?_)
   go_simp
   refine (aE _ _ _ _).mono ?_
   rintro e w2 ⟨rfl,hw2⟩;subst hw2;rw [hI];go_wp2_with fail
   clear xV;refine hK.out _ _ ?_ (fun xV=>?_)
   . exact ⟨y0,y1,e1,e2,e9⟩
   clear hK K;refine ae 7 xV ?_
   refine ae 8 xV ?_
   refine ae 9 xV ?_
   refine ae 10 xV ?_
   refine ae 11 xV ?_
   refine ae 12 xV ?_
   refine ae 13 xV ?_
   refine ae 14 xV ?_
   refine ae 15 xV ?_
   refine ae 16 xV ?_
   refine ae 17 xV ?_
   refine ae 18 xV ?_
   refine au 19 xV ?_
   refine au 20 xV ?_
   refine gp (i:=21) (by kernel_rfl) rfl (by kernel_rfl) xV ?_
   simp only [Act.put,List.setIfInBounds_toArray,List.set_cons_zero,List.set_cons_succ]
   refine au 22 xV ?_
   refine ae 23 xV ?_
   refine ae 24 xV ?_
   refine au 25 xV ?_
   refine au 26 xV ?_
   refine au 27 xV ?_
   refine au 28 xV ?_
   refine au 29 xV ?_
   refine au 30 xV ?_
   refine au 31 xV ?_
   refine au 32 xV ?_
   refine au 33 xV ?_
   refine au 34 xV ?_
   refine au 35 xV ?_
   refine au 36 xV ?_
   refine au 37 xV ?_
   refine au 38 xV ?_
   refine ae 39 xV ?_
   refine wpAnyH_done (by kernel_rfl) ?_ _
   clear xV;have HB:=aa (hA.trans (B1.drew.mono hA.size));have HE:=aa (eA (x:=x) HDJ.out (qy HL.out));go_wp2
   go_ret
   exact ⟨ah HE.out.symm,HB.out⟩
 have ej:j=nd:=by omega
 subst ej;have hAll:ey x ds=true:=dR.2 (fun q d hq=>hall q d (by have:=(List.getElem?_eq_some_iff.1 hq).1;omega) hq);have HB:=aa (hA.trans (hb.mono hA.size));go_wp2
 go_ret
 exact ⟨ah hAll.symm,HB.out⟩
def dC (x:aq) (ms:List ai) (m s:Int):Bool:=inB m 0 ((ms.length:Int)-1)&&(!(ms.getD m.toNat ([],[],false,[])).2.2.1&&(!decide (m=x.lost)||decide (s<x.xW)))
theorem jC (w:World) (E F G:TypeId) (x:aq) (am ad:Option Addr) (nm cm nd cd:Nat) (ms:List ai) (ds:List (Int×List Int)) (h0:(bI E F).Rd w [.slice am nm cm] ms) (h1:(aW G).Rd w [.slice ad nd cd] ds) (hw:bh ms ds<=2097152):
 Calls Tryz.prog 10 #[.agg #[.int .i64 x.id,.int .i64 x.n,.int .i64 x.s,.slice am nm cm,.int .i64 x.lost,.int .i64 x.xW,.int .i64 x.seq,.int .i64 x.tail,.int .i64 x.gen,.slice ad nd cd,.int .i64 x.xY,.bool x.down,.bool x.xX]] w fun e w'=>e=.returned (.bool (bf x ms ds))/\Below w.heap.size w w':=by
 have hwm:aQ ms<=2097152:=by unfold bh at hw;omega
 have hwd:aX ds<=2097152:=by unfold bh at hw;omega
 have hA:=af w (.cells #[.int .i64 x.id,.int .i64 x.n,.int .i64 x.s,.slice am nm cm,.int .i64 x.lost,.int .i64 x.xW,.int .i64 x.seq,.int .i64 x.tail,.int .i64 x.gen,.slice ad nd cd,.int .i64 x.xY,.bool x.down,.bool x.xX] 31);have X:=Box.new w 31 #[.int .i64 x.id,.int .i64 x.n,.int .i64 x.s,.slice am nm cm,.int .i64 x.lost,.int .i64 x.xW,.int .i64 x.seq,.int .i64 x.tail,.int .i64 x.gen,.slice ad nd cd,.int .i64 x.xY,.bool x.down,.bool x.xX];obtain ⟨k0,k1,k2,k3,k4,k5,k6,k7,k8,k9,k10,k11,k12⟩:=X.cells13;have zA:=X.lt;have r0:=h0.below hA;have r1:=h1.below hA;go_enter Tryz.func10,Tryz.ntmps10
 go_wp2_with fail
 generalize w.alloc (.cells #[.int .i64 x.id,.int .i64 x.n,.int .i64 x.s,.slice am nm cm,.int .i64 x.lost,.int .i64 x.xW,.int .i64 x.seq,.int .i64 x.tail,.int .i64 x.gen,.slice ad nd cd,.int .i64 x.xY,.bool x.down,.bool x.xX] 31)=W at hA X zA r0 r1 k0 k1 k2 k3 k4 k5 k6 k7 k8 k9 k10 k11 k12 ⊢;refine (eu _ _ _).mono ?_
 rintro e w1 ⟨rfl,b1⟩;have X1:=X.below b1 X.lt;have B1:=Below.andThen hA b1;have q1:=r0.below b1;have t1:=r1.below b1;clear k0 k1 k2 k3 k4 k5 k6 k7 k8 k9 k10 k11 k12 b1 hA X r0 r1;obtain ⟨k0,k1,k2,k3,k4,k5,k6,k7,k8,k9,k10,k11,k12⟩:=X1.cells13;cases hg:bL x.n x.s
 . skip
   have HF:Hid (bf x ms ds=false):=by unfold Hid bf;simp [hg]
   go_wp2
   go_ret
   exact ⟨ah HF.out.symm,B1⟩
 obtain ⟨g1,g2,g3,g4⟩:=aB.1 hg;have hws:IntKind.i64.wrap (x.n-1)=x.n-1:=IntWalk.i64_in _ (by omega);go_wp2_with fail
 refine (aE _ _ _ _).mono ?_
 rintro e wq ⟨rfl,hq⟩;obtain rfl:=hq.symm;cases hid:inB x.id 1 60000
 . skip
   have HF:Hid (bf x ms ds=false):=by unfold Hid bf;simp [hid]
   go_wp2
   go_ret
   exact ⟨ah HF.out.symm,B1⟩
 skip
 go_wp2_with fail
 refine (sZ _ E F x _ _ _ _ _ _ ms q1 hwm hg).mono ?_
 rintro e w2 ⟨rfl,b2⟩;have X2:=X1.below b2 X1.lt;have B2:=Below.andThen B1 b2;have q2:=q1.below b2;have t2:=t1.below b2;clear k0 k1 k2 k3 k4 k5 k6 k7 k8 k9 k10 k11 k12 b2 B1 X1 q1 t1;obtain ⟨k0,k1,k2,k3,k4,k5,k6,k7,k8,k9,k10,k11,k12⟩:=X2.cells13;cases hms:cI x ms
 . skip
   have HF:Hid (bf x ms ds=false):=by unfold Hid bf;simp [hms]
   go_wp2
   go_ret
   exact ⟨ah HF.out.symm,B2⟩
 skip
 go_wp2_with fail
 refine (rF _ G x _ _ _ _ _ _ ds t2 hwd hg).mono ?_
 rintro e w3 ⟨rfl,b3⟩;have X3:=X2.below b3 X2.lt;have B3:=Below.andThen B2 b3;have q3:=q2.below b3;have t3:=t2.below b3;clear k0 k1 k2 k3 k4 k5 k6 k7 k8 k9 k10 k11 k12 b3 B2 X2 q2 t2;obtain ⟨k0,k1,k2,k3,k4,k5,k6,k7,k8,k9,k10,k11,k12⟩:=X3.cells13;cases hds:ey x ds
 . skip
   have HF:Hid (bf x ms ds=false):=by unfold Hid bf;simp [hds]
   go_wp2
   go_ret
   exact ⟨ah HF.out.symm,B3⟩
 skip
 go_wp2_with fail
 refine (aE _ _ _ _).mono ?_
 rintro e wq ⟨rfl,hq⟩;obtain rfl:=hq.symm;cases hlo:inB x.lost (-1) (x.n-1)
 . skip
   have HF:Hid (bf x ms ds=false):=by unfold Hid bf;simp [dU,hlo]
   go_wp2
   go_ret
   exact ⟨ah HF.out.symm,B3⟩
 skip
 go_wp2_with fail
 refine (aE _ _ _ _).mono ?_
 rintro e wq ⟨rfl,hq⟩;obtain rfl:=hq.symm;cases hbu:inB x.xW 0 x.s
 . skip
   have HF:Hid (bf x ms ds=false):=by unfold Hid bf;simp [dU,hbu]
   go_wp2
   go_ret
   exact ⟨ah HF.out.symm,B3⟩
 skip
 have hlb:(x.lost=-1/\¬x.xW=0)∨(x.lost=-1/\x.xW=0)∨¬x.lost=-1:=by omega
 have HLB:Hid (dU x=(!decide (x.lost=-1)||decide (x.xW=0))):=by unfold Hid dU;rw [hlo,hbu];simp
 rcases hlb with ⟨l1,l2⟩|⟨l1,l2⟩|l1
 . have e1:(x.lost==-1)=true:=by simpa using l1
   have e2:(x.xW !=0)=true:=by simpa using l2
   have e3:(x.xW==0)=false:=by simpa using l2
   have hL:dU x=false:=by rw [HLB.out];simp [l1,l2]
   rw [l1] at k4;have HF:Hid (bf x ms ds=false):=by unfold Hid bf;simp [hL]
   clear hL l1 l2;go_wp2
   go_ret
   exact ⟨ah HF.out.symm,B3⟩
 . have e1:(x.lost==-1)=true:=by simpa using l1
   have e2:(x.xW !=0)=false:=by simpa using l2
   have e3:(x.xW==0)=true:=by simpa using l2
   have HLT:Hid (dU x=true):=by unfold Hid;rw [HLB.out];simp [l2]
   rw [l1] at k4;rw [l2] at k5;clear l1 l2;have HT:Hid (bf x ms ds=ez x):=by unfold Hid bf;rw [hg,hid,hms,hds,HLT.out];rfl
   go_wp2_with fail
   refine (aE _ _ _ _).mono ?_
   rintro e wq ⟨rfl,hq⟩;obtain rfl:=hq.symm;cases ht:inB x.tail 0 60000
   . have HF:Hid (bf x ms ds=false):=by unfold Hid;rw [HT.out];unfold ez;simp [ht]
     go_wp2
     go_ret
     exact ⟨ah HF.out.symm,B3⟩
   skip
   have ht2:0<=x.tail/\x.tail<=60000:=by unfold inB at ht;simpa using ht
   have hw4:IntKind.i64.wrap (x.tail+4)=x.tail+4:=IntWalk.i64_in _ (by omega);go_wp2_with fail
   refine (aE _ _ _ _).mono ?_
   rintro e wq ⟨rfl,hq⟩;obtain rfl:=hq.symm;cases hs:inB x.seq x.tail 60000
   . have HF:Hid (bf x ms ds=false):=by unfold Hid;rw [HT.out];unfold ez;simp [hs]
     go_wp2
     go_ret
     exact ⟨ah HF.out.symm,B3⟩
   skip
   by_cases hle:x.seq<=x.tail+4
   . skip
     go_wp2_with fail
     refine (aE _ _ _ _).mono ?_
     rintro e wq ⟨rfl,hq⟩;obtain rfl:=hq.symm;cases hge:inB x.gen 0 60000
     . have HF:Hid (bf x ms ds=false):=by unfold Hid;rw [HT.out];unfold ez;simp [hge]
       go_wp2
       go_ret
       exact ⟨ah HF.out.symm,B3⟩
     skip
     have HF:Hid (bf x ms ds=inB x.xY (-1) 1000):=by unfold Hid;rw [HT.out];unfold ez;simp [ht,hs,hle,hge]
     go_wp2_with fail
     refine (aE _ _ _ _).mono ?_
     rintro e wq ⟨rfl,hq⟩;obtain rfl:=hq.symm;cases hfu:inB x.xY (-1) 1000
     . go_wp2
       go_ret
       exact ⟨ah (by rw [HF.out,hfu]),B3⟩
     go_wp2
     go_ret
     exact ⟨ah (by rw [HF.out,hfu]),B3⟩
   have HF:Hid (bf x ms ds=false):=by unfold Hid;rw [HT.out];unfold ez;simp;omega
   have hgt:x.tail+4<x.seq:=by omega
   go_wp2
   go_ret
   exact ⟨ah HF.out.symm,B3⟩
 have e1:(x.lost==-1)=false:=by simpa using l1
 have HLT:Hid (dU x=true):=by unfold Hid;rw [HLB.out];simp [l1]
 clear l1;have HT:Hid (bf x ms ds=ez x):=by unfold Hid bf;rw [hg,hid,hms,hds,HLT.out];rfl
 go_wp2_with fail
 refine (aE _ _ _ _).mono ?_
 rintro e wq ⟨rfl,hq⟩;obtain rfl:=hq.symm;cases ht:inB x.tail 0 60000
 . have HF:Hid (bf x ms ds=false):=by unfold Hid;rw [HT.out];unfold ez;simp [ht]
   go_wp2
   go_ret
   exact ⟨ah HF.out.symm,B3⟩
 skip
 have ht2:0<=x.tail/\x.tail<=60000:=by unfold inB at ht;simpa using ht
 have hw4:IntKind.i64.wrap (x.tail+4)=x.tail+4:=IntWalk.i64_in _ (by omega);go_wp2_with fail
 refine (aE _ _ _ _).mono ?_
 rintro e wq ⟨rfl,hq⟩;obtain rfl:=hq.symm;cases hs:inB x.seq x.tail 60000
 . have HF:Hid (bf x ms ds=false):=by unfold Hid;rw [HT.out];unfold ez;simp [hs]
   go_wp2
   go_ret
   exact ⟨ah HF.out.symm,B3⟩
 skip
 by_cases hle:x.seq<=x.tail+4
 . skip
   go_wp2_with fail
   refine (aE _ _ _ _).mono ?_
   rintro e wq ⟨rfl,hq⟩;obtain rfl:=hq.symm;cases hge:inB x.gen 0 60000
   . have HF:Hid (bf x ms ds=false):=by unfold Hid;rw [HT.out];unfold ez;simp [hge]
     go_wp2
     go_ret
     exact ⟨ah HF.out.symm,B3⟩
   skip
   have HF:Hid (bf x ms ds=inB x.xY (-1) 1000):=by unfold Hid;rw [HT.out];unfold ez;simp [ht,hs,hle,hge]
   go_wp2_with fail
   refine (aE _ _ _ _).mono ?_
   rintro e wq ⟨rfl,hq⟩;obtain rfl:=hq.symm;cases hfu:inB x.xY (-1) 1000
   . go_wp2
     go_ret
     exact ⟨ah (by rw [HF.out,hfu]),B3⟩
   go_wp2
   go_ret
   exact ⟨ah (by rw [HF.out,hfu]),B3⟩
 have HF:Hid (bf x ms ds=false):=by unfold Hid;rw [HT.out];unfold ez;simp;omega
 have hgt:x.tail+4<x.seq:=by omega
 go_wp2
 go_ret
 exact ⟨ah HF.out.symm,B3⟩
theorem fh (w:World) (E F:TypeId) (x:aq) (am ad:Option Addr) (nm cm nd cd:Nat) (ms:List ai) (m s:Int) (h0:(bI E F).Rd w [.slice am nm cm] ms) (hw:aQ ms<=2097152):
 Calls Tryz.prog 12 #[.agg #[.int .i64 x.id,.int .i64 x.n,.int .i64 x.s,.slice am nm cm,.int .i64 x.lost,.int .i64 x.xW,.int .i64 x.seq,.int .i64 x.tail,.int .i64 x.gen,.slice ad nd cd,.int .i64 x.xY,.bool x.down,.bool x.xX],.int .i64 m,.int .i64 s] w fun e w'=>e=.returned (.bool (dC x ms m s))/\Below w.heap.size w w':=by
 obtain ⟨hl,hc,hm⟩:=ag h0;have hnm:nm<=2097152:=by unfold aQ at hw;omega
 have hA:=af w (.cells #[.int .i64 x.id,.int .i64 x.n,.int .i64 x.s,.slice am nm cm,.int .i64 x.lost,.int .i64 x.xW,.int .i64 x.seq,.int .i64 x.tail,.int .i64 x.gen,.slice ad nd cd,.int .i64 x.xY,.bool x.down,.bool x.xX] 31);have X:=Box.new w 31 #[.int .i64 x.id,.int .i64 x.n,.int .i64 x.s,.slice am nm cm,.int .i64 x.lost,.int .i64 x.xW,.int .i64 x.seq,.int .i64 x.tail,.int .i64 x.gen,.slice ad nd cd,.int .i64 x.xY,.bool x.down,.bool x.xX];obtain ⟨k0,k1,k2,k3,k4,k5,k6,k7,k8,k9,k10,k11,k12⟩:=X.cells13;have h1:=h0.below hA;have hwn:IntKind.i64.wrap ((nm:Int)-1)=(nm:Int)-1:=IntWalk.i64_in _ (by omega);go_enter Tryz.func12,Tryz.ntmps12
 go_wp2_with fail
 generalize w.alloc (.cells #[.int .i64 x.id,.int .i64 x.n,.int .i64 x.s,.slice am nm cm,.int .i64 x.lost,.int .i64 x.xW,.int .i64 x.seq,.int .i64 x.tail,.int .i64 x.gen,.slice ad nd cd,.int .i64 x.xY,.bool x.down,.bool x.xX] 31)=W at hA X h1 k0 k1 k2 k3 k4 k5 k6 k7 k8 k9 k10 k11 k12 ⊢;refine (aE _ _ _ _).mono ?_
 rintro e wq ⟨rfl,hq⟩;obtain rfl:=hq.symm;cases hi:inB m 0 ((nm:Int)-1)
 . have HF:Hid (dC x ms m s=false):=by unfold Hid dC;rw [hl,hi];rfl
   go_wp2
   go_ret
   exact ⟨ah HF.out.symm,hA⟩
 have hi2:0<=m/\m<=(nm:Int)-1:=by unfold inB at hi;simpa using hi
 obtain ⟨j,rfl⟩:=Int.eq_ofNat_of_zero_le hi2.1;rcases eb rfl h1 with h0'|⟨b,off,rfl,hbl,hcs⟩
 . omega
 have hdj:ms[j]?=some (ms[j]'(by omega)):=List.getElem?_eq_getElem (by omega);generalize ms[j]'(by omega)=d at hdj;obtain ⟨v0,v1,v2,v3,hv0,hv1,hv2,hv3,hrv⟩:=hcs j d hdj;obtain ⟨a0,c0,a1,c1,a3,c3,ss,cs,f,bs,rfl,rfl,rfl,rfl,rfl,r0,r1,r3⟩:=fV hrv;have i1:(0:Int)<=(j:Int):=by omega
 have i2:(j:Int)<(nm:Int):=by omega
 have HD:Hid (dC x ms (j:Int) s=(!f&&(!decide ((j:Int)=x.lost)||decide (s<x.xW)))):=by
  unfold Hid dC;rw [hl,hi,Int.toNat_natCast,List.getD_eq_getElem?_getD,hdj];rfl
 clear hcs hv0 hv1 hv3 hrv r0 r1 r3 hdj;cases f
 . by_cases hj:(j:Int)=x.lost
   . have e1:((j:Int)==x.lost)=true:=by simpa using hj
     have e2:((j:Int) !=x.lost)=false:=by simpa using hj
     have HF:Hid (dC x ms (j:Int) s=decide (s<x.xW)):=by unfold Hid;rw [HD.out];simp [hj]
     clear hj;go_wp2
     go_ret
     exact ⟨ah HF.out.symm,hA⟩
   have e1:((j:Int)==x.lost)=false:=by simpa using hj
   have e2:((j:Int) !=x.lost)=true:=by simpa using hj
   have HF:Hid (dC x ms (j:Int) s=true):=by unfold Hid;rw [HD.out];simp [hj]
   clear hj;go_wp2
   go_ret
   exact ⟨ah HF.out.symm,hA⟩
 have HF:Hid (dC x ms (j:Int) s=false):=by unfold Hid;rw [HD.out];rfl
 go_wp2
 go_ret
 exact ⟨ah HF.out.symm,hA⟩
end Go.Proofs.YtgjomldcnjjpaaaGreat
