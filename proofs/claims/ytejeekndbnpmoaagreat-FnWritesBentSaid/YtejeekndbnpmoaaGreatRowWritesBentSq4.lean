/-
 The walk of the program's superPlace. Condition: the number is not below 0.
-/
import Derived.Test.YtejeekndbnpmoaaGreatRowWritesBentSq3
import Derived.Test.YtejeekndbnpmoaaGreatRowWritesBentSq2
import Derived.Test.YtejeekndbnpmoaaGreatRowWritesBentSq1

set_option maxRecDepth 100000
set_option maxHeartbeats 8000000
set_option linter.unusedSimpArgs false

namespace Go.Proofs.YtejeekndbnpmoaaGreat
open Go.RowKit

theorem eb {x:al} {ds:List (Int×List Int)} {i:Nat} {d:Int×List Int} (hx:ds[i]?=some d) (h:dj x ds i d=false):dZ x ds=false:=fW hx h
theorem sf {x:al} {ds:List (Int×List Int)} {i:Nat} {y:Int} {zs:List Int} (h:inB y 0 (x.s-1)=false):dj x ds i (y,zs)=false:=by unfold dj;rw [h];rfl
theorem oQ {x:al} {ds:List (Int×List Int)} {i:Nat} {y:Int} {zs:List Int} (h:¬(zs.length:Int)=x.n-1):dj x ds i (y,zs)=false:=by unfold dj;simp [h]
theorem oR {x:al} {ds:List (Int×List Int)} {i:Nat} {y:Int} {zs:List Int} (h:cG zs=false):dj x ds i (y,zs)=false:=by unfold dj;simp [h]
theorem sg {x:al} {ds:List (Int×List Int)} {y:Int} {zs:List Int} (h1:inB y 0 (x.s-1)=true) (h2:(zs.length:Int)=x.n-1) (h3:cG zs=true):dj x ds 0 (y,zs)=true:=by unfold dj;simp [h1,h2,h3]
theorem si {x:al} {ds:List (Int×List Int)} {p:Nat} {y:Int} {zs:List Int} {q:Int×List Int} (h1:inB y 0 (x.s-1)=true) (h2:(zs.length:Int)=x.n-1) (h3:cG zs=true) (hq:ds[p]?=some q):dj x ds (p+1) (y,zs)=decide (q.1<y):=by
 unfold dj;rw [h1,h3];have:ds.getD (p+1-1) (0,[])=q:=by rw [Nat.add_sub_cancel,List.getD_eq_getElem?_getD,hq];rfl
 simp only [h2,decide_true,Bool.true_and,this]
 simp
theorem pI (w:World) (G:TypeId) (x:al) (am ad:Option Addr) (nm cm nd cd:Nat) (ds:List (Int×List Int)) (h0:(aU G).Rd w [.slice ad nd cd] ds) (hw:bh ds<=2097152) (hg:bF x.n x.s=true):
 Calls Tryz.prog 177 #[.agg #[.int .i64 x.id,.int .i64 x.n,.int .i64 x.s,.slice am nm cm,.int .i64 x.lost,.int .i64 x.vG,.int .i64 x.seq,.int .i64 x.tail,.int .i64 x.gen,.slice ad nd cd,.int .i64 x.vI,.bool x.down,.bool x.vH]] w fun e w'=>e=.returned (.bool (dZ x ds))/\Below w.heap.size w w':=by
 obtain ⟨hl,hc,hm⟩:=af h0;obtain ⟨g1,g2,g3,g4⟩:=aB.1 hg;have hA:=ae w (.cells #[.int .i64 x.id,.int .i64 x.n,.int .i64 x.s,.slice am nm cm,.int .i64 x.lost,.int .i64 x.vG,.int .i64 x.seq,.int .i64 x.tail,.int .i64 x.gen,.slice ad nd cd,.int .i64 x.vI,.bool x.down,.bool x.vH] 29);have X:=Box.new w 29 #[.int .i64 x.id,.int .i64 x.n,.int .i64 x.s,.slice am nm cm,.int .i64 x.lost,.int .i64 x.vG,.int .i64 x.seq,.int .i64 x.tail,.int .i64 x.gen,.slice ad nd cd,.int .i64 x.vI,.bool x.down,.bool x.vH];have zA:=X.lt;have hnd:nd<=2097152:=by unfold bh at hw;omega
 have h1:=h0.below hA;have hws:IntKind.i64.wrap (x.s-1)=x.s-1:=IntWalk.i64_in _ (by omega);have hwn:IntKind.i64.wrap (x.n-1)=x.n-1:=IntWalk.i64_in _ (by omega);go_enter Tryz.func177,Tryz.ntmps177
 go_wp2
 generalize w.alloc (.cells #[.int .i64 x.id,.int .i64 x.n,.int .i64 x.s,.slice am nm cm,.int .i64 x.lost,.int .i64 x.vG,.int .i64 x.seq,.int .i64 x.tail,.int .i64 x.gen,.slice ad nd cd,.int .i64 x.vI,.bool x.down,.bool x.vH] 29)=W at hA X zA h1 ⊢;go_loopw [3] (fun i wr=>∃j:Nat,j<=nd/\i=.int .i64 j/\(∀(q:Nat) (d:Int×List Int),q<j->ds[q]?=some d->dj x ds q d=true)/\Below W.heap.size W wr) (fun i _=>nd-(intOf i).toNat)
 case atStart=>exact ⟨0,Nat.zero_le _,rfl,fun q d hq=>by omega,Below.refl _ _⟩
 obtain ⟨j,hj,rfl,hall,hb⟩:=hrel;have Xr:=X.below hb zA;obtain ⟨k0,k1,k2,k3,k4,k5,k6,k7,k8,k9,k10,k11,k12⟩:=Xr.cells13;by_cases hjn:j<nd
 . rcases cY rfl h1 with h0'|⟨b,off,rfl,hbl,hcs⟩
   . omega
   have hdj:ds[j]?=some (ds[j]'(by omega)):=List.getElem?_eq_getElem (by omega);generalize ds[j]'(by omega)=d at hdj;obtain ⟨v0,v1,hv0,hv1,hrv⟩:=hcs j d hdj;obtain ⟨rfl,hrw⟩:=eI hrv;obtain ⟨av,cv,rfl⟩:=az hrw;obtain ⟨y,zs⟩:=d;simp only at hv0 hv1 hrw hrv
   have u0:=(hb.cell (p:=⟨b,off+j*2,none⟩) hbl).trans hv0;have u1:=(hb.cell (p:=⟨b,off+j*2+1,none⟩) hbl).trans hv1;have i1:(0:Int)<=(j:Int):=by omega
   have i2:(j:Int)<(nd:Int):=by omega
   have hwz:zs.length<=2097152:=Nat.le_trans (cE hdj) hw;have HDJ:=aa hdj;have b1:=ae wr (.cells #[.int .i64 y,.slice av zs.length cv] 90);have Y1:=Box.new wr 90 #[.int .i64 y,.slice av zs.length cv];have X1:=Xr.below b1 Xr.lt;have RZ:=(aP ((hrw.below hb).below b1)).1;have B1:=hb.trans (b1.mono hb.size);obtain ⟨y0,y1⟩:=Y1.cells2;obtain ⟨e0,e1,e2,e3,e4,e5,e6,e7,e8,e9,e10,e11,e12⟩:=X1.cells13;have hq:∀(p:Nat) (q:Int×List Int),ds[p]?=some q->(wr.alloc (.cells #[.int .i64 y,.slice av zs.length cv] 90)).cell? ⟨b,off+p*2,none⟩=some (.int .i64 q.1):=fun p q hpq=>by
    obtain ⟨c0,c1,hc0,hc1,hrc⟩:=hcs p q hpq;obtain ⟨rfl,_⟩:=eI hrc;exact (B1.cell (p:=⟨b,off+p*2,none⟩) hbl).trans hc0
   have HQ:=aa hq;clear hcs hv0 hv1 hrv hrw hdj hq b1 e0 e3 e4 e5 e6 e7 e8 e10 e11 e12;cases hI:inB y 0 (x.s-1)
   . skip
     go_wp2_with fail
     generalize wr.alloc (.cells #[.int .i64 y,.slice av zs.length cv] 90)=w1 at X1 Y1 RZ B1 y0 y1 e1 e2 e9 HQ ⊢;refine wp_region_held_drew (S:=fun w'=>w'.cell? ⟨wr.heap.size,0,none⟩=some (.int .i64 y)/\w'.cell? ⟨wr.heap.size,1,none⟩=some (.slice av zs.length cv)/\w'.cell? ⟨w.heap.size,1,none⟩=some (.int .i64 x.n)/\w'.cell? ⟨w.heap.size,2,none⟩=some (.int .i64 x.s)/\w'.cell? ⟨w.heap.size,9,none⟩=some (.slice (some ⟨b,off,none⟩) nd cd)) (by kernel_rfl) ?_ (fun vF=>?_)
     . exact ⟨y0,y1,e1,e2,e9⟩
     refine ab 0 vF ?_
     refine ab 1 vF ?_
     refine ab 2 vF ?_
     refine ab 3 vF ?_
     refine ab 4 vF ?_
     refine ab 5 vF ?_
     refine aq (i:=6) (by kernel_rfl) rfl (by kernel_rfl) (fun K hK=>?_)
     go_simp
     refine (aE _ _ _ _).mono ?_
     rintro e w2 ⟨rfl,hw2⟩;subst hw2;rw [hI];go_wp2_with fail
     clear vF;refine hK.out _ _ ?_ (fun vF=>?_)
     . exact ⟨y0,y1,e1,e2,e9⟩
     clear hK K;refine ab 7 vF ?_
     refine ab 8 vF ?_
     refine ao 9 vF ?_
     refine ao 10 vF ?_
     refine ao 11 vF ?_
     refine ao 12 vF ?_
     refine ao 13 vF ?_
     refine ao 14 vF ?_
     refine ao 15 vF ?_
     refine ao 16 vF ?_
     refine ab 17 vF ?_
     refine ab 18 vF ?_
     refine ao 19 vF ?_
     refine ao 20 vF ?_
     refine fN (i:=21) (by kernel_rfl) rfl (by kernel_rfl) vF ?_
     simp only [Act.put,List.setIfInBounds_toArray,List.set_cons_zero,List.set_cons_succ]
     refine ao 22 vF ?_
     refine ab 23 vF ?_
     refine ab 24 vF ?_
     refine ao 25 vF ?_
     refine ao 26 vF ?_
     refine ao 27 vF ?_
     refine ao 28 vF ?_
     refine ao 29 vF ?_
     refine ao 30 vF ?_
     refine ao 31 vF ?_
     refine ao 32 vF ?_
     refine ao 33 vF ?_
     refine ao 34 vF ?_
     refine ao 35 vF ?_
     refine ao 36 vF ?_
     refine ao 37 vF ?_
     refine ao 38 vF ?_
     refine ab 39 vF ?_
     refine wpAnyH_done (by kernel_rfl) ?_ _
     clear vF;have HB:=aa (hA.trans (B1.drew.mono hA.size));have HE:=aa (eb (x:=x) HDJ.out (sf hI));go_wp2
     go_ret
     exact ⟨ag HE.out.symm,HB.out⟩
   by_cases hL:(zs.length:Int)=x.n-1
   . have hL1:((zs.length:Int)==x.n-1)=true:=by simpa using hL
     have hL2:((zs.length:Int) !=x.n-1)=false:=by simpa using hL
     have HL:=aa hL;clear hL;cases hZ:cG zs
     . skip
       go_wp2_with fail
       generalize wr.alloc (.cells #[.int .i64 y,.slice av zs.length cv] 90)=w1 at X1 Y1 RZ B1 y0 y1 e1 e2 e9 HQ ⊢;refine wp_region_held_drew (S:=fun w'=>w'.cell? ⟨wr.heap.size,0,none⟩=some (.int .i64 y)/\w'.cell? ⟨wr.heap.size,1,none⟩=some (.slice av zs.length cv)/\w'.cell? ⟨w.heap.size,1,none⟩=some (.int .i64 x.n)/\w'.cell? ⟨w.heap.size,2,none⟩=some (.int .i64 x.s)/\w'.cell? ⟨w.heap.size,9,none⟩=some (.slice (some ⟨b,off,none⟩) nd cd)) (by kernel_rfl) ?_ (fun vF=>?_)
       . exact ⟨y0,y1,e1,e2,e9⟩
       refine ab 0 vF ?_
       refine ab 1 vF ?_
       refine ab 2 vF ?_
       refine ab 3 vF ?_
       refine ab 4 vF ?_
       refine ab 5 vF ?_
       refine aq (i:=6) (by kernel_rfl) rfl (by kernel_rfl) (fun K hK=>?_)
       go_simp
       refine (aE _ _ _ _).mono ?_
       rintro e w2 ⟨rfl,hw2⟩;subst hw2;rw [hI];go_wp2_with fail
       clear vF;refine hK.out _ _ ?_ (fun vF=>?_)
       . exact ⟨y0,y1,e1,e2,e9⟩
       clear hK K;refine ab 7 vF ?_
       refine ab 8 vF ?_
       refine ab 9 vF ?_
       refine ab 10 vF ?_
       refine ab 11 vF ?_
       refine ab 12 vF ?_
       refine ab 13 vF ?_
       refine ab 14 vF ?_
       refine ab 15 vF ?_
       refine ab 16 vF ?_
       refine ab 17 vF ?_
       refine ab 18 vF ?_
       refine ab 19 vF ?_
       refine ab 20 vF ?_
       refine aq (i:=21) (by kernel_rfl) rfl (by kernel_rfl) (fun K hK=>?_)
       go_simp
       refine (dD _ _ _ _ zs rfl RZ.draw hwz).mono ?_
       rintro e w2 ⟨rfl,hw2⟩;subst hw2;rw [hZ];go_wp2_with fail
       clear vF;refine hK.out _ _ ?_ (fun vF=>?_)
       . exact ⟨y0,y1,e1,e2,e9⟩
       clear hK K;refine ab 22 vF ?_
       refine ab 23 vF ?_
       refine ab 24 vF ?_
       refine ao 25 vF ?_
       refine ao 26 vF ?_
       refine ao 27 vF ?_
       refine ao 28 vF ?_
       refine ao 29 vF ?_
       refine ao 30 vF ?_
       refine ao 31 vF ?_
       refine ao 32 vF ?_
       refine ao 33 vF ?_
       refine ao 34 vF ?_
       refine ao 35 vF ?_
       refine ao 36 vF ?_
       refine ao 37 vF ?_
       refine ao 38 vF ?_
       refine ab 39 vF ?_
       refine wpAnyH_done (by kernel_rfl) ?_ _
       clear vF;have HB:=aa (hA.trans (B1.drew.mono hA.size));have HE:=aa (eb (x:=x) HDJ.out (oR hZ));go_wp2
       go_ret
       exact ⟨ag HE.out.symm,HB.out⟩
     by_cases hj0:j=0
     . subst hj0
       simp only [Nat.zero_mul,Nat.add_zero] at u0 u1
       go_wp2_with fail
       generalize wr.alloc (.cells #[.int .i64 y,.slice av zs.length cv] 90)=w1 at X1 Y1 RZ B1 y0 y1 e1 e2 e9 HQ ⊢;refine wp_region_held_drew (S:=fun w'=>w'.cell? ⟨wr.heap.size,0,none⟩=some (.int .i64 y)/\w'.cell? ⟨wr.heap.size,1,none⟩=some (.slice av zs.length cv)/\w'.cell? ⟨w.heap.size,1,none⟩=some (.int .i64 x.n)/\w'.cell? ⟨w.heap.size,2,none⟩=some (.int .i64 x.s)/\w'.cell? ⟨w.heap.size,9,none⟩=some (.slice (some ⟨b,off,none⟩) nd cd)) (by kernel_rfl) ?_ (fun vF=>?_)
       . exact ⟨y0,y1,e1,e2,e9⟩
       refine ab 0 vF ?_
       refine ab 1 vF ?_
       refine ab 2 vF ?_
       refine ab 3 vF ?_
       refine ab 4 vF ?_
       refine ab 5 vF ?_
       refine aq (i:=6) (by kernel_rfl) rfl (by kernel_rfl) (fun K hK=>?_)
       go_simp
       refine (aE _ _ _ _).mono ?_
       rintro e w2 ⟨rfl,hw2⟩;subst hw2;rw [hI];go_wp2_with fail
       clear vF;refine hK.out _ _ ?_ (fun vF=>?_)
       . exact ⟨y0,y1,e1,e2,e9⟩
       clear hK K;refine ab 7 vF ?_
       refine ab 8 vF ?_
       refine ab 9 vF ?_
       refine ab 10 vF ?_
       refine ab 11 vF ?_
       refine ab 12 vF ?_
       refine ab 13 vF ?_
       refine ab 14 vF ?_
       refine ab 15 vF ?_
       refine ab 16 vF ?_
       refine ab 17 vF ?_
       refine ab 18 vF ?_
       refine ab 19 vF ?_
       refine ab 20 vF ?_
       refine aq (i:=21) (by kernel_rfl) rfl (by kernel_rfl) (fun K hK=>?_)
       go_simp
       refine (dD _ _ _ _ zs rfl RZ.draw hwz).mono ?_
       rintro e w2 ⟨rfl,hw2⟩;subst hw2;rw [hZ];go_wp2_with fail
       clear vF;refine hK.out _ _ ?_ (fun vF=>?_)
       . exact ⟨y0,y1,e1,e2,e9⟩
       clear hK K;refine ab 22 vF ?_
       refine ab 23 vF ?_
       refine ab 24 vF ?_
       refine ab 25 vF ?_
       refine ab 26 vF ?_
       refine ab 27 vF ?_
       refine ao 28 vF ?_
       refine ao 29 vF ?_
       refine ao 30 vF ?_
       refine ao 31 vF ?_
       refine ao 32 vF ?_
       refine ao 33 vF ?_
       refine ao 34 vF ?_
       refine ao 35 vF ?_
       refine ao 36 vF ?_
       refine ao 37 vF ?_
       refine ab 38 vF ?_
       refine ab 39 vF ?_
       refine wpAnyH_done (by kernel_rfl) ?_ _
       clear vF;have HB:=aa B1.drew;have hat:dj x ds (0) (y,zs)=true:=sg hI HL.out hZ;go_wp2
       go_roundw
       case rel=>exact ⟨0+1,by omega,by go_num,fun q d hq hm'=>by
        rcases Nat.lt_or_ge q (0) with h|h
        . exact hall q d h hm'
        obtain rfl:q=0:=by omega
        rw [HDJ.out] at hm';cases hm';exact hat,HB.out⟩
       case measure=>simp [intOf];omega
     obtain ⟨p,rfl⟩:∃p,j=p+1:=⟨j-1,by omega⟩;have hpq:ds[p]?=some (ds[p]'(by omega)):=List.getElem?_eq_getElem (by omega);generalize ds[p]'(by omega)=q at hpq;have hE:=si hI HL.out hZ hpq;have qc:=HQ.out p q hpq;obtain ⟨s,zq⟩:=q;simp only at qc hE
     have HE5:=aa hE;clear hpq hE;have j1:IntKind.i64.wrap (((p+1:Nat):Int)-1)=(p:Int):=by rw [IntWalk.i64_in _ (by omega)];omega
     have j2:IntKind.i64.wrap ((p:Int)+1-1)=(p:Int):=by rw [IntWalk.i64_in _ (by omega)];omega
     have j3:IntKind.i64.wrap (p:Int)=(p:Int):=IntWalk.i64_in _ (by omega);have j4:(0:Int)<=(p:Int):=by omega
     have j5:(p:Int)<(nd:Int):=by omega
     have j6:(0:Int)<((p+1:Nat):Int):=by omega
     by_cases hlt:s<y
     . have hd1:decide (s<y)=true:=by simpa using hlt
       have hge:¬y<=s:=by omega
       go_wp2_with fail
       generalize wr.alloc (.cells #[.int .i64 y,.slice av zs.length cv] 90)=w1 at X1 Y1 RZ B1 y0 y1 e1 e2 e9 HQ qc ⊢;refine wp_region_held_drew (S:=fun w'=>w'.cell? ⟨wr.heap.size,0,none⟩=some (.int .i64 y)/\w'.cell? ⟨wr.heap.size,1,none⟩=some (.slice av zs.length cv)/\w'.cell? ⟨w.heap.size,1,none⟩=some (.int .i64 x.n)/\w'.cell? ⟨w.heap.size,2,none⟩=some (.int .i64 x.s)/\w'.cell? ⟨w.heap.size,9,none⟩=some (.slice (some ⟨b,off,none⟩) nd cd)/\w'.cell? ⟨b,off+p*2,none⟩=some (.int .i64 s)) (by kernel_rfl) ?_ (fun vF=>?_)
       . exact ⟨y0,y1,e1,e2,e9,qc⟩
       refine ab 0 vF ?_
       refine ab 1 vF ?_
       refine ab 2 vF ?_
       refine ab 3 vF ?_
       refine ab 4 vF ?_
       refine ab 5 vF ?_
       refine aq (i:=6) (by kernel_rfl) rfl (by kernel_rfl) (fun K hK=>?_)
       go_simp
       refine (aE _ _ _ _).mono ?_
       rintro e w2 ⟨rfl,hw2⟩;subst hw2;rw [hI];go_wp2_with fail
       clear vF;refine hK.out _ _ ?_ (fun vF=>?_)
       . exact ⟨y0,y1,e1,e2,e9,qc⟩
       clear hK K;refine ab 7 vF ?_
       refine ab 8 vF ?_
       refine ab 9 vF ?_
       refine ab 10 vF ?_
       refine ab 11 vF ?_
       refine ab 12 vF ?_
       refine ab 13 vF ?_
       refine ab 14 vF ?_
       refine ab 15 vF ?_
       refine ab 16 vF ?_
       refine ab 17 vF ?_
       refine ab 18 vF ?_
       refine ab 19 vF ?_
       refine ab 20 vF ?_
       refine aq (i:=21) (by kernel_rfl) rfl (by kernel_rfl) (fun K hK=>?_)
       go_simp
       refine (dD _ _ _ _ zs rfl RZ.draw hwz).mono ?_
       rintro e w2 ⟨rfl,hw2⟩;subst hw2;rw [hZ];go_wp2_with fail
       clear vF;refine hK.out _ _ ?_ (fun vF=>?_)
       . exact ⟨y0,y1,e1,e2,e9,qc⟩
       clear hK K;refine ab 22 vF ?_
       refine ab 23 vF ?_
       refine ab 24 vF ?_
       refine ab 25 vF ?_
       refine ab 26 vF ?_
       refine ab 27 vF ?_
       refine ab 28 vF ?_
       refine ab 29 vF ?_
       refine ab 30 vF ?_
       refine ab 31 vF ?_
       refine ab 32 vF ?_
       refine ab 33 vF ?_
       refine ab 34 vF ?_
       refine ab 35 vF ?_
       refine ab 36 vF ?_
       refine ab 37 vF ?_
       refine ab 38 vF ?_
       refine ab 39 vF ?_
       refine wpAnyH_done (by kernel_rfl) ?_ _
       clear vF;have HB:=aa B1.drew;have hat:dj x ds (p+1) (y,zs)=true:=HE5.out.trans hd1;go_wp2
       go_roundw
       case rel=>exact ⟨p+1+1,by omega,by go_num,fun q d hq hm'=>by
        rcases Nat.lt_or_ge q (p+1) with h|h
        . exact hall q d h hm'
        obtain rfl:q=p+1:=by omega
        rw [HDJ.out] at hm';cases hm';exact hat,HB.out⟩
       case measure=>simp [intOf];omega
     have hd1:decide (s<y)=false:=by simpa using hlt
     have hge:y<=s:=by omega
     go_wp2_with fail
     generalize wr.alloc (.cells #[.int .i64 y,.slice av zs.length cv] 90)=w1 at X1 Y1 RZ B1 y0 y1 e1 e2 e9 HQ qc ⊢;refine wp_region_held_drew (S:=fun w'=>w'.cell? ⟨wr.heap.size,0,none⟩=some (.int .i64 y)/\w'.cell? ⟨wr.heap.size,1,none⟩=some (.slice av zs.length cv)/\w'.cell? ⟨w.heap.size,1,none⟩=some (.int .i64 x.n)/\w'.cell? ⟨w.heap.size,2,none⟩=some (.int .i64 x.s)/\w'.cell? ⟨w.heap.size,9,none⟩=some (.slice (some ⟨b,off,none⟩) nd cd)/\w'.cell? ⟨b,off+p*2,none⟩=some (.int .i64 s)) (by kernel_rfl) ?_ (fun vF=>?_)
     . exact ⟨y0,y1,e1,e2,e9,qc⟩
     refine ab 0 vF ?_
     refine ab 1 vF ?_
     refine ab 2 vF ?_
     refine ab 3 vF ?_
     refine ab 4 vF ?_
     refine ab 5 vF ?_
     refine aq (i:=6) (by kernel_rfl) rfl (by kernel_rfl) (fun K hK=>?_)
     go_simp
     refine (aE _ _ _ _).mono ?_
     rintro e w2 ⟨rfl,hw2⟩;subst hw2;rw [hI];go_wp2_with fail
     clear vF;refine hK.out _ _ ?_ (fun vF=>?_)
     . exact ⟨y0,y1,e1,e2,e9,qc⟩
     clear hK K;refine ab 7 vF ?_
     refine ab 8 vF ?_
     refine ab 9 vF ?_
     refine ab 10 vF ?_
     refine ab 11 vF ?_
     refine ab 12 vF ?_
     refine ab 13 vF ?_
     refine ab 14 vF ?_
     refine ab 15 vF ?_
     refine ab 16 vF ?_
     refine ab 17 vF ?_
     refine ab 18 vF ?_
     refine ab 19 vF ?_
     refine ab 20 vF ?_
     refine aq (i:=21) (by kernel_rfl) rfl (by kernel_rfl) (fun K hK=>?_)
     go_simp
     refine (dD _ _ _ _ zs rfl RZ.draw hwz).mono ?_
     rintro e w2 ⟨rfl,hw2⟩;subst hw2;rw [hZ];go_wp2_with fail
     clear vF;refine hK.out _ _ ?_ (fun vF=>?_)
     . exact ⟨y0,y1,e1,e2,e9,qc⟩
     clear hK K;refine ab 22 vF ?_
     refine ab 23 vF ?_
     refine ab 24 vF ?_
     refine ab 25 vF ?_
     refine ab 26 vF ?_
     refine ab 27 vF ?_
     refine ab 28 vF ?_
     refine ab 29 vF ?_
     refine ab 30 vF ?_
     refine ab 31 vF ?_
     refine ab 32 vF ?_
     refine ab 33 vF ?_
     refine ab 34 vF ?_
     refine ab 35 vF ?_
     refine ab 36 vF ?_
     refine ab 37 vF ?_
     refine ab 38 vF ?_
     refine ab 39 vF ?_
     refine wpAnyH_done (by kernel_rfl) ?_ _
     clear vF;have HB:=aa (hA.trans (B1.drew.mono hA.size));have HE:=aa (eb (x:=x) HDJ.out (HE5.out.trans hd1));go_wp2
     go_ret
     exact ⟨ag HE.out.symm,HB.out⟩
   have hL1:((zs.length:Int)==x.n-1)=false:=by simpa using hL
   have hL2:((zs.length:Int) !=x.n-1)=true:=by simpa using hL
   have HL:=aa hL;clear hL;go_wp2_with fail
   generalize wr.alloc (.cells #[.int .i64 y,.slice av zs.length cv] 90)=w1 at X1 Y1 RZ B1 y0 y1 e1 e2 e9 HQ ⊢;refine wp_region_held_drew (S:=fun w'=>w'.cell? ⟨wr.heap.size,0,none⟩=some (.int .i64 y)/\w'.cell? ⟨wr.heap.size,1,none⟩=some (.slice av zs.length cv)/\w'.cell? ⟨w.heap.size,1,none⟩=some (.int .i64 x.n)/\w'.cell? ⟨w.heap.size,2,none⟩=some (.int .i64 x.s)/\w'.cell? ⟨w.heap.size,9,none⟩=some (.slice (some ⟨b,off,none⟩) nd cd)) (by kernel_rfl) ?_ (fun vF=>?_)
   . exact ⟨y0,y1,e1,e2,e9⟩
   refine ab 0 vF ?_
   refine ab 1 vF ?_
   refine ab 2 vF ?_
   refine ab 3 vF ?_
   refine ab 4 vF ?_
   refine ab 5 vF ?_
   refine aq (i:=6) (by kernel_rfl) rfl (by kernel_rfl) (fun K hK=>?_)
   go_simp
   refine (aE _ _ _ _).mono ?_
   rintro e w2 ⟨rfl,hw2⟩;subst hw2;rw [hI];go_wp2_with fail
   clear vF;refine hK.out _ _ ?_ (fun vF=>?_)
   . exact ⟨y0,y1,e1,e2,e9⟩
   clear hK K;refine ab 7 vF ?_
   refine ab 8 vF ?_
   refine ab 9 vF ?_
   refine ab 10 vF ?_
   refine ab 11 vF ?_
   refine ab 12 vF ?_
   refine ab 13 vF ?_
   refine ab 14 vF ?_
   refine ab 15 vF ?_
   refine ab 16 vF ?_
   refine ab 17 vF ?_
   refine ab 18 vF ?_
   refine ao 19 vF ?_
   refine ao 20 vF ?_
   refine fN (i:=21) (by kernel_rfl) rfl (by kernel_rfl) vF ?_
   simp only [Act.put,List.setIfInBounds_toArray,List.set_cons_zero,List.set_cons_succ]
   refine ao 22 vF ?_
   refine ab 23 vF ?_
   refine ab 24 vF ?_
   refine ao 25 vF ?_
   refine ao 26 vF ?_
   refine ao 27 vF ?_
   refine ao 28 vF ?_
   refine ao 29 vF ?_
   refine ao 30 vF ?_
   refine ao 31 vF ?_
   refine ao 32 vF ?_
   refine ao 33 vF ?_
   refine ao 34 vF ?_
   refine ao 35 vF ?_
   refine ao 36 vF ?_
   refine ao 37 vF ?_
   refine ao 38 vF ?_
   refine ab 39 vF ?_
   refine wpAnyH_done (by kernel_rfl) ?_ _
   clear vF;have HB:=aa (hA.trans (B1.drew.mono hA.size));have HE:=aa (eb (x:=x) HDJ.out (oQ HL.out));go_wp2
   go_ret
   exact ⟨ag HE.out.symm,HB.out⟩
 have ej:j=nd:=by omega
 subst ej;have hAll:dZ x ds=true:=dy.2 (fun q d hq=>hall q d (by have:=(List.getElem?_eq_some_iff.1 hq).1;omega) hq);have HB:=aa (hA.trans (hb.mono hA.size));go_wp2
 go_ret
 exact ⟨ag hAll.symm,HB.out⟩
def cM (x:al) (ms:List ai) (m s:Int):Bool:=inB m 0 ((ms.length:Int)-1)&&(!(ms.getD m.toNat ([],[],false,[])).2.2.1&&(!decide (m=x.lost)||decide (s<x.vG)))
theorem eW (w:World) (E F G:TypeId) (x:al) (am ad:Option Addr) (nm cm nd cd:Nat) (ms:List ai) (ds:List (Int×List Int)) (h0:(bt E F).Rd w [.slice am nm cm] ms) (h1:(aU G).Rd w [.slice ad nd cd] ds) (hw:aM ms ds<=2097152):
 Calls Tryz.prog 100 #[.agg #[.int .i64 x.id,.int .i64 x.n,.int .i64 x.s,.slice am nm cm,.int .i64 x.lost,.int .i64 x.vG,.int .i64 x.seq,.int .i64 x.tail,.int .i64 x.gen,.slice ad nd cd,.int .i64 x.vI,.bool x.down,.bool x.vH]] w fun e w'=>e=.returned (.bool (aZ x ms ds))/\Below w.heap.size w w':=by
 have hwm:aV ms<=2097152:=by unfold aM at hw;omega
 have hwd:bh ds<=2097152:=by unfold aM at hw;omega
 have hA:=ae w (.cells #[.int .i64 x.id,.int .i64 x.n,.int .i64 x.s,.slice am nm cm,.int .i64 x.lost,.int .i64 x.vG,.int .i64 x.seq,.int .i64 x.tail,.int .i64 x.gen,.slice ad nd cd,.int .i64 x.vI,.bool x.down,.bool x.vH] 29);have X:=Box.new w 29 #[.int .i64 x.id,.int .i64 x.n,.int .i64 x.s,.slice am nm cm,.int .i64 x.lost,.int .i64 x.vG,.int .i64 x.seq,.int .i64 x.tail,.int .i64 x.gen,.slice ad nd cd,.int .i64 x.vI,.bool x.down,.bool x.vH];obtain ⟨k0,k1,k2,k3,k4,k5,k6,k7,k8,k9,k10,k11,k12⟩:=X.cells13;have zA:=X.lt;have r0:=h0.below hA;have r1:=h1.below hA;go_enter Tryz.func100,Tryz.ntmps100
 go_wp2_with fail
 generalize w.alloc (.cells #[.int .i64 x.id,.int .i64 x.n,.int .i64 x.s,.slice am nm cm,.int .i64 x.lost,.int .i64 x.vG,.int .i64 x.seq,.int .i64 x.tail,.int .i64 x.gen,.slice ad nd cd,.int .i64 x.vI,.bool x.down,.bool x.vH] 29)=W at hA X zA r0 r1 k0 k1 k2 k3 k4 k5 k6 k7 k8 k9 k10 k11 k12 ⊢;refine (dX _ _ _).mono ?_
 rintro e w1 ⟨rfl,b1⟩;have X1:=X.below b1 X.lt;have B1:=Below.andThen hA b1;have q1:=r0.below b1;have t1:=r1.below b1;clear k0 k1 k2 k3 k4 k5 k6 k7 k8 k9 k10 k11 k12 b1 hA X r0 r1;obtain ⟨k0,k1,k2,k3,k4,k5,k6,k7,k8,k9,k10,k11,k12⟩:=X1.cells13;cases hg:bF x.n x.s
 . skip
   have HF:Hid (aZ x ms ds=false):=by unfold Hid aZ;simp [hg]
   go_wp2
   go_ret
   exact ⟨ag HF.out.symm,B1⟩
 obtain ⟨g1,g2,g3,g4⟩:=aB.1 hg;have hws:IntKind.i64.wrap (x.n-1)=x.n-1:=IntWalk.i64_in _ (by omega);go_wp2_with fail
 refine (aE _ _ _ _).mono ?_
 rintro e wq ⟨rfl,hq⟩;obtain rfl:=hq.symm;cases hid:inB x.id 1 60000
 . skip
   have HF:Hid (aZ x ms ds=false):=by unfold Hid aZ;simp [hid]
   go_wp2
   go_ret
   exact ⟨ag HF.out.symm,B1⟩
 skip
 go_wp2_with fail
 refine (qK _ E F x _ _ _ _ _ _ ms q1 hwm hg).mono ?_
 rintro e w2 ⟨rfl,b2⟩;have X2:=X1.below b2 X1.lt;have B2:=Below.andThen B1 b2;have q2:=q1.below b2;have t2:=t1.below b2;clear k0 k1 k2 k3 k4 k5 k6 k7 k8 k9 k10 k11 k12 b2 B1 X1 q1 t1;obtain ⟨k0,k1,k2,k3,k4,k5,k6,k7,k8,k9,k10,k11,k12⟩:=X2.cells13;cases hms:cJ x ms
 . skip
   have HF:Hid (aZ x ms ds=false):=by unfold Hid aZ;simp [hms]
   go_wp2
   go_ret
   exact ⟨ag HF.out.symm,B2⟩
 skip
 go_wp2_with fail
 refine (pI _ G x _ _ _ _ _ _ ds t2 hwd hg).mono ?_
 rintro e w3 ⟨rfl,b3⟩;have X3:=X2.below b3 X2.lt;have B3:=Below.andThen B2 b3;have q3:=q2.below b3;have t3:=t2.below b3;clear k0 k1 k2 k3 k4 k5 k6 k7 k8 k9 k10 k11 k12 b3 B2 X2 q2 t2;obtain ⟨k0,k1,k2,k3,k4,k5,k6,k7,k8,k9,k10,k11,k12⟩:=X3.cells13;cases hds:dZ x ds
 . skip
   have HF:Hid (aZ x ms ds=false):=by unfold Hid aZ;simp [hds]
   go_wp2
   go_ret
   exact ⟨ag HF.out.symm,B3⟩
 skip
 go_wp2_with fail
 refine (aE _ _ _ _).mono ?_
 rintro e wq ⟨rfl,hq⟩;obtain rfl:=hq.symm;cases hlo:inB x.lost (-1) (x.n-1)
 . skip
   have HF:Hid (aZ x ms ds=false):=by unfold Hid aZ;simp [dq,hlo]
   go_wp2
   go_ret
   exact ⟨ag HF.out.symm,B3⟩
 skip
 go_wp2_with fail
 refine (aE _ _ _ _).mono ?_
 rintro e wq ⟨rfl,hq⟩;obtain rfl:=hq.symm;cases hbu:inB x.vG 0 x.s
 . skip
   have HF:Hid (aZ x ms ds=false):=by unfold Hid aZ;simp [dq,hbu]
   go_wp2
   go_ret
   exact ⟨ag HF.out.symm,B3⟩
 skip
 have hlb:(x.lost=-1/\¬x.vG=0)∨(x.lost=-1/\x.vG=0)∨¬x.lost=-1:=by omega
 have HLB:Hid (dq x=(!decide (x.lost=-1)||decide (x.vG=0))):=by unfold Hid dq;rw [hlo,hbu];simp
 rcases hlb with ⟨l1,l2⟩|⟨l1,l2⟩|l1
 . have e1:(x.lost==-1)=true:=by simpa using l1
   have e2:(x.vG !=0)=true:=by simpa using l2
   have e3:(x.vG==0)=false:=by simpa using l2
   have hL:dq x=false:=by rw [HLB.out];simp [l1,l2]
   rw [l1] at k4;have HF:Hid (aZ x ms ds=false):=by unfold Hid aZ;simp [hL]
   clear hL l1 l2;go_wp2
   go_ret
   exact ⟨ag HF.out.symm,B3⟩
 . have e1:(x.lost==-1)=true:=by simpa using l1
   have e2:(x.vG !=0)=false:=by simpa using l2
   have e3:(x.vG==0)=true:=by simpa using l2
   have HLT:Hid (dq x=true):=by unfold Hid;rw [HLB.out];simp [l2]
   rw [l1] at k4;rw [l2] at k5;clear l1 l2;have HT:Hid (aZ x ms ds=dB x):=by unfold Hid aZ;rw [hg,hid,hms,hds,HLT.out];rfl
   go_wp2_with fail
   refine (aE _ _ _ _).mono ?_
   rintro e wq ⟨rfl,hq⟩;obtain rfl:=hq.symm;cases ht:inB x.tail 0 60000
   . have HF:Hid (aZ x ms ds=false):=by unfold Hid;rw [HT.out];unfold dB;simp [ht]
     go_wp2
     go_ret
     exact ⟨ag HF.out.symm,B3⟩
   skip
   have ht2:0<=x.tail/\x.tail<=60000:=by unfold inB at ht;simpa using ht
   have hw4:IntKind.i64.wrap (x.tail+4)=x.tail+4:=IntWalk.i64_in _ (by omega);go_wp2_with fail
   refine (aE _ _ _ _).mono ?_
   rintro e wq ⟨rfl,hq⟩;obtain rfl:=hq.symm;cases hs:inB x.seq x.tail 60000
   . have HF:Hid (aZ x ms ds=false):=by unfold Hid;rw [HT.out];unfold dB;simp [hs]
     go_wp2
     go_ret
     exact ⟨ag HF.out.symm,B3⟩
   skip
   by_cases hle:x.seq<=x.tail+4
   . skip
     go_wp2_with fail
     refine (aE _ _ _ _).mono ?_
     rintro e wq ⟨rfl,hq⟩;obtain rfl:=hq.symm;cases hge:inB x.gen 0 60000
     . have HF:Hid (aZ x ms ds=false):=by unfold Hid;rw [HT.out];unfold dB;simp [hge]
       go_wp2
       go_ret
       exact ⟨ag HF.out.symm,B3⟩
     skip
     have HF:Hid (aZ x ms ds=inB x.vI (-1) 1000):=by unfold Hid;rw [HT.out];unfold dB;simp [ht,hs,hle,hge]
     go_wp2_with fail
     refine (aE _ _ _ _).mono ?_
     rintro e wq ⟨rfl,hq⟩;obtain rfl:=hq.symm;cases hfu:inB x.vI (-1) 1000
     . go_wp2
       go_ret
       exact ⟨ag (by rw [HF.out,hfu]),B3⟩
     go_wp2
     go_ret
     exact ⟨ag (by rw [HF.out,hfu]),B3⟩
   have HF:Hid (aZ x ms ds=false):=by unfold Hid;rw [HT.out];unfold dB;simp;omega
   have hgt:x.tail+4<x.seq:=by omega
   go_wp2
   go_ret
   exact ⟨ag HF.out.symm,B3⟩
 have e1:(x.lost==-1)=false:=by simpa using l1
 have HLT:Hid (dq x=true):=by unfold Hid;rw [HLB.out];simp [l1]
 clear l1;have HT:Hid (aZ x ms ds=dB x):=by unfold Hid aZ;rw [hg,hid,hms,hds,HLT.out];rfl
 go_wp2_with fail
 refine (aE _ _ _ _).mono ?_
 rintro e wq ⟨rfl,hq⟩;obtain rfl:=hq.symm;cases ht:inB x.tail 0 60000
 . have HF:Hid (aZ x ms ds=false):=by unfold Hid;rw [HT.out];unfold dB;simp [ht]
   go_wp2
   go_ret
   exact ⟨ag HF.out.symm,B3⟩
 skip
 have ht2:0<=x.tail/\x.tail<=60000:=by unfold inB at ht;simpa using ht
 have hw4:IntKind.i64.wrap (x.tail+4)=x.tail+4:=IntWalk.i64_in _ (by omega);go_wp2_with fail
 refine (aE _ _ _ _).mono ?_
 rintro e wq ⟨rfl,hq⟩;obtain rfl:=hq.symm;cases hs:inB x.seq x.tail 60000
 . have HF:Hid (aZ x ms ds=false):=by unfold Hid;rw [HT.out];unfold dB;simp [hs]
   go_wp2
   go_ret
   exact ⟨ag HF.out.symm,B3⟩
 skip
 by_cases hle:x.seq<=x.tail+4
 . skip
   go_wp2_with fail
   refine (aE _ _ _ _).mono ?_
   rintro e wq ⟨rfl,hq⟩;obtain rfl:=hq.symm;cases hge:inB x.gen 0 60000
   . have HF:Hid (aZ x ms ds=false):=by unfold Hid;rw [HT.out];unfold dB;simp [hge]
     go_wp2
     go_ret
     exact ⟨ag HF.out.symm,B3⟩
   skip
   have HF:Hid (aZ x ms ds=inB x.vI (-1) 1000):=by unfold Hid;rw [HT.out];unfold dB;simp [ht,hs,hle,hge]
   go_wp2_with fail
   refine (aE _ _ _ _).mono ?_
   rintro e wq ⟨rfl,hq⟩;obtain rfl:=hq.symm;cases hfu:inB x.vI (-1) 1000
   . go_wp2
     go_ret
     exact ⟨ag (by rw [HF.out,hfu]),B3⟩
   go_wp2
   go_ret
   exact ⟨ag (by rw [HF.out,hfu]),B3⟩
 have HF:Hid (aZ x ms ds=false):=by unfold Hid;rw [HT.out];unfold dB;simp;omega
 have hgt:x.tail+4<x.seq:=by omega
 go_wp2
 go_ret
 exact ⟨ag HF.out.symm,B3⟩
theorem fX (w:World) (E F:TypeId) (x:al) (am ad:Option Addr) (nm cm nd cd:Nat) (ms:List ai) (m s:Int) (h0:(bt E F).Rd w [.slice am nm cm] ms) (hw:aV ms<=2097152):
 Calls Tryz.prog 224 #[.agg #[.int .i64 x.id,.int .i64 x.n,.int .i64 x.s,.slice am nm cm,.int .i64 x.lost,.int .i64 x.vG,.int .i64 x.seq,.int .i64 x.tail,.int .i64 x.gen,.slice ad nd cd,.int .i64 x.vI,.bool x.down,.bool x.vH],.int .i64 m,.int .i64 s] w fun e w'=>e=.returned (.bool (cM x ms m s))/\Below w.heap.size w w':=by
 obtain ⟨hl,hc,hm⟩:=af h0;have hnm:nm<=2097152:=by unfold aV at hw;omega
 have hA:=ae w (.cells #[.int .i64 x.id,.int .i64 x.n,.int .i64 x.s,.slice am nm cm,.int .i64 x.lost,.int .i64 x.vG,.int .i64 x.seq,.int .i64 x.tail,.int .i64 x.gen,.slice ad nd cd,.int .i64 x.vI,.bool x.down,.bool x.vH] 29);have X:=Box.new w 29 #[.int .i64 x.id,.int .i64 x.n,.int .i64 x.s,.slice am nm cm,.int .i64 x.lost,.int .i64 x.vG,.int .i64 x.seq,.int .i64 x.tail,.int .i64 x.gen,.slice ad nd cd,.int .i64 x.vI,.bool x.down,.bool x.vH];obtain ⟨k0,k1,k2,k3,k4,k5,k6,k7,k8,k9,k10,k11,k12⟩:=X.cells13;have h1:=h0.below hA;have hwn:IntKind.i64.wrap ((nm:Int)-1)=(nm:Int)-1:=IntWalk.i64_in _ (by omega);go_enter Tryz.func224,Tryz.ntmps224
 go_wp2_with fail
 generalize w.alloc (.cells #[.int .i64 x.id,.int .i64 x.n,.int .i64 x.s,.slice am nm cm,.int .i64 x.lost,.int .i64 x.vG,.int .i64 x.seq,.int .i64 x.tail,.int .i64 x.gen,.slice ad nd cd,.int .i64 x.vI,.bool x.down,.bool x.vH] 29)=W at hA X h1 k0 k1 k2 k3 k4 k5 k6 k7 k8 k9 k10 k11 k12 ⊢;refine (aE _ _ _ _).mono ?_
 rintro e wq ⟨rfl,hq⟩;obtain rfl:=hq.symm;cases hi:inB m 0 ((nm:Int)-1)
 . have HF:Hid (cM x ms m s=false):=by unfold Hid cM;rw [hl,hi];rfl
   go_wp2
   go_ret
   exact ⟨ag HF.out.symm,hA⟩
 have hi2:0<=m/\m<=(nm:Int)-1:=by unfold inB at hi;simpa using hi
 obtain ⟨j,rfl⟩:=Int.eq_ofNat_of_zero_le hi2.1;rcases dW rfl h1 with h0'|⟨b,off,rfl,hbl,hcs⟩
 . omega
 have hdj:ms[j]?=some (ms[j]'(by omega)):=List.getElem?_eq_getElem (by omega);generalize ms[j]'(by omega)=d at hdj;obtain ⟨v0,v1,v2,v3,hv0,hv1,hv2,hv3,hrv⟩:=hcs j d hdj;obtain ⟨a0,c0,a1,c1,a3,c3,ss,cs,f,bs,rfl,rfl,rfl,rfl,rfl,r0,r1,r3⟩:=fR hrv;have i1:(0:Int)<=(j:Int):=by omega
 have i2:(j:Int)<(nm:Int):=by omega
 have HD:Hid (cM x ms (j:Int) s=(!f&&(!decide ((j:Int)=x.lost)||decide (s<x.vG)))):=by
  unfold Hid cM;rw [hl,hi,Int.toNat_natCast,List.getD_eq_getElem?_getD,hdj];rfl
 clear hcs hv0 hv1 hv3 hrv r0 r1 r3 hdj;cases f
 . by_cases hj:(j:Int)=x.lost
   . have e1:((j:Int)==x.lost)=true:=by simpa using hj
     have e2:((j:Int) !=x.lost)=false:=by simpa using hj
     have HF:Hid (cM x ms (j:Int) s=decide (s<x.vG)):=by unfold Hid;rw [HD.out];simp [hj]
     clear hj;go_wp2
     go_ret
     exact ⟨ag HF.out.symm,hA⟩
   have e1:((j:Int)==x.lost)=false:=by simpa using hj
   have e2:((j:Int) !=x.lost)=true:=by simpa using hj
   have HF:Hid (cM x ms (j:Int) s=true):=by unfold Hid;rw [HD.out];simp [hj]
   clear hj;go_wp2
   go_ret
   exact ⟨ag HF.out.symm,hA⟩
 have HF:Hid (cM x ms (j:Int) s=false):=by unfold Hid;rw [HD.out];rfl
 go_wp2
 go_ret
 exact ⟨ag HF.out.symm,hA⟩
theorem vh {x:al} {ms:List ai} {ds:List (Int×List Int)} (ha:aZ x ms ds=true):bF x.n x.s=true:=by
 unfold aZ at ha;simp only [Bool.and_eq_true] at ha
 exact ha.1
theorem sj {x:al} {ms:List ai} {ds:List (Int×List Int)} (ha:aZ x ms ds=true):Asc8 ds:=by
 have hg:=vh ha;obtain ⟨_,_,_,g4⟩:=aB.1 hg;unfold aZ dZ at ha;simp only [Bool.and_eq_true] at ha
 have he:=dy.1 ha.2.2.2.1;have h1:∀(i:Nat) (e e':Int×List Int),ds[i]?=some e->ds[i+1]?=some e'->e.1<e'.1:=fun i e e' h h'=>by
  have:=he (i+1) e' h';unfold dj at this;simp only [Bool.and_eq_true,Bool.or_eq_true,decide_eq_true_eq,Nat.add_sub_cancel] at this
  rcases this.2.2.2 with h0|h0
  . omega
  rw [List.getD_eq_getElem?_getD,h] at h0;exact h0
 refine ⟨fun i j=>?_,fun i e h=>?_⟩
 . induction j with
   | zero=>intro e e' h;omega
   | succ j ih=>
    intro e e' hij h h';by_cases hj:i=j
    . subst hj
      exact h1 i e e' h h'
    have hjl:=(List.getElem?_eq_some_iff.1 h').1;have hjj:=List.getElem?_eq_getElem (show j<ds.length by omega);have a1:=ih e _ (by omega) h hjj;have a2:=h1 j _ e' hjj h';omega
 have:=he i e h;unfold dj at this;simp only [Bool.and_eq_true] at this
 have:=aI.1 this.1;omega
theorem vi {ds:List aF} (h:Asc8 ds):ds.length<=101:=by
 have h1:∀(i:Nat) (e:aF),ds[i]?=some e->(i:Int)<=e.1:=by
  intro i;induction i with
  | zero=>intro e he;have:=h.2 0 e he;omega
  | succ i ih=>
   intro e he;have hl:=(List.getElem?_eq_some_iff.1 he).1;have hi:=List.getElem?_eq_getElem (show i<ds.length by omega);have a1:=ih _ hi;have a2:=h.1 i (i+1) _ e (by omega) hi he;omega
 by_cases h0:ds.length=0
 . omega
 have hi:=List.getElem?_eq_getElem (show ds.length-1<ds.length by omega);have a1:=h1 _ _ hi;have a2:=h.2 _ _ hi;omega
structure Sup where
 id:Int
 gen:Int
 role:Int
 n:Int
 s:Int
 tail:Int
 lost:Int
 vG:Int
def supZ:Sup:=⟨0,0,0,0,0,0,0,0⟩
def gP (n s lost vG:Int):Bool:=if lost=-1 then decide (vG=0) else inB lost 0 (n-1)&&inB vG 0 s
def eA (x:Sup):Bool:=bF x.n x.s&&(gP x.n x.s x.lost x.vG&&(inB x.role 0 (x.n-1)&&(inB x.id 1 60000&&(inB x.gen 0 60000&&inB x.tail 0 60000))))
theorem ki {n s lost vG:Int}:gP n s lost vG=true ↔ (lost=-1/\vG=0)∨(¬lost=-1/\0<=lost/\lost<=n-1/\0<=vG/\vG<=s):=by
 unfold gP;split
 . rename_i h
   simp [h]
 rename_i h
 rw [Bool.and_eq_true,aI,aI];simp [h,and_assoc]
theorem eB {x:Sup}:eA x=true ↔ (3<=x.n/\x.n<=5/\1<=x.s/\x.s<=8)/\((x.lost=-1/\x.vG=0)∨(¬x.lost=-1/\0<=x.lost/\x.lost<=x.n-1/\0<=x.vG/\x.vG<=x.s))/\(0<=x.role/\x.role<=x.n-1)/\(1<=x.id/\x.id<=60000)/\(0<=x.gen/\x.gen<=60000)/\(0<=x.tail/\x.tail<=60000):=by
 unfold eA;simp only [Bool.and_eq_true,aB,ki,aI]
theorem eC {x:Sup} (h:¬((3<=x.n/\x.n<=5/\1<=x.s/\x.s<=8)/\((x.lost=-1/\x.vG=0)∨(¬x.lost=-1/\0<=x.lost/\x.lost<=x.n-1/\0<=x.vG/\x.vG<=x.s))/\(0<=x.role/\x.role<=x.n-1)/\(1<=x.id/\x.id<=60000)/\(0<=x.gen/\x.gen<=60000)/\(0<=x.tail/\x.tail<=60000))):eA x=false:=by
 rw [←Bool.not_eq_true,eB];exact h
theorem Box.cells8 {w:World} {B:Nat} {T:TypeId} {v0 v1 v2 v3 v4 v5 v6 v7:Value} (h:Box w B T #[v0,v1,v2,v3,v4,v5,v6,v7]):
 w.cell? ⟨B,0,none⟩=some v0/\w.cell? ⟨B,1,none⟩=some v1/\w.cell? ⟨B,2,none⟩=some v2/\w.cell? ⟨B,3,none⟩=some v3/\w.cell? ⟨B,4,none⟩=some v4/\w.cell? ⟨B,5,none⟩=some v5/\w.cell? ⟨B,6,none⟩=some v6/\w.cell? ⟨B,7,none⟩=some v7:=
 ⟨h.cell 0,h.cell 1,h.cell 2,h.cell 3,h.cell 4,h.cell 5,h.cell 6,h.cell 7⟩
theorem lH (w:World) (n s lost vG:Int) (hn:3<=n/\n<=5):Calls Tryz.prog 79 #[.agg #[.int .i64 n,.int .i64 s],.int .i64 lost,.int .i64 vG] w fun e w'=>e=.returned (.bool (gP n s lost vG))/\Below w.heap.size w w':=by
 have hA:=ae w (.cells #[.int .i64 n,.int .i64 s] 25);obtain ⟨k0,k1⟩:=(bL.new w 25 n s).cells;have gw:IntKind.i64.wrap (n-1)=n-1:=IntWalk.i64_in _ (by omega);by_cases h:lost=-1
 . by_cases hb:vG=0
   . go_enter Tryz.func79,Tryz.ntmps79
     go_wp2
     go_ret
     exact ⟨ag (by unfold gP;rw [if_pos h];simp [hb]),hA⟩
   go_enter Tryz.func79,Tryz.ntmps79
   go_wp2
   go_ret
   exact ⟨ag (by unfold gP;rw [if_pos h];simp [hb]),hA⟩
 have HD:Hid (gP n s lost vG=(inB lost 0 (n-1)&&inB vG 0 s)):=by unfold Hid gP;rw [if_neg h]
 go_enter Tryz.func79,Tryz.ntmps79
 go_wp2_with fail
 refine (bE _ _ _ _).mono ?_
 rintro e w1 ⟨rfl,rfl⟩;by_cases h1:inB lost 0 (n-1)=true
 . go_wp2_with fail
   refine (bE _ _ _ _).mono ?_
   rintro e w1 ⟨rfl,rfl⟩;go_wp2
   go_ret
   exact ⟨ag (by rw [HD.out,h1];rfl),hA⟩
 have h1':inB lost 0 (n-1)=false:=by simpa using h1
 go_wp2
 go_ret
 exact ⟨ag (by rw [HD.out,h1'];rfl),hA⟩
theorem lr (w:World) (x:Sup):Calls Tryz.prog 231 #[.agg #[.int .i64 x.id,.int .i64 x.gen,.int .i64 x.role,.int .i64 x.n,.int .i64 x.s,.int .i64 x.tail,.int .i64 x.lost,.int .i64 x.vG]] w fun e w'=>e=.returned (.bool (eA x))/\Below w.heap.size w w':=by
 have hA:=ae w (.cells #[.int .i64 x.id,.int .i64 x.gen,.int .i64 x.role,.int .i64 x.n,.int .i64 x.s,.int .i64 x.tail,.int .i64 x.lost,.int .i64 x.vG] 150);have X:=Box.new w 150 #[.int .i64 x.id,.int .i64 x.gen,.int .i64 x.role,.int .i64 x.n,.int .i64 x.s,.int .i64 x.tail,.int .i64 x.lost,.int .i64 x.vG];obtain ⟨k0,k1,k2,k3,k4,k5,k6,k7⟩:=X.cells8;have zA:=X.lt;go_enter Tryz.func231,Tryz.ntmps231
 go_wp2_with fail
 refine (dX _ _ _).mono ?_
 rintro e w1 ⟨rfl,b1⟩;have X1:=X.below b1 zA;have B1:=Below.andThen hA b1;clear k0 k1 k2 k3 k4 k5 k6 k7 X b1 hA zA;obtain ⟨k0,k1,k2,k3,k4,k5,k6,k7⟩:=X1.cells8;by_cases hg:bF x.n x.s=true
 . obtain ⟨g1,g2,g3,g4⟩:=aB.1 hg
   have gw:IntKind.i64.wrap (x.n-1)=x.n-1:=IntWalk.i64_in _ (by omega);go_wp2_with fail
   refine (aE _ _ _ _).mono ?_
   rintro e w2 ⟨rfl,rfl⟩;by_cases h1:inB x.id 1 60000=true
   . have h1i:=aI.1 h1
     go_wp2_with fail
     refine (aE _ _ _ _).mono ?_
     rintro e w2 ⟨rfl,rfl⟩;by_cases h2:inB x.gen 0 60000=true
     . have h2i:=aI.1 h2
       go_wp2_with fail
       refine (aE _ _ _ _).mono ?_
       rintro e w2 ⟨rfl,rfl⟩;by_cases h3:inB x.role 0 (x.n-1)=true
       . have h3i:=aI.1 h3
         go_wp2_with fail
         refine (aE _ _ _ _).mono ?_
         rintro e w2 ⟨rfl,rfl⟩;by_cases h4:inB x.tail 0 60000=true
         . have h4i:=aI.1 h4
           go_wp2_with fail
           refine (aE _ _ _ _).mono ?_
           rintro e w2 ⟨rfl,rfl⟩;by_cases h5:inB x.lost (-1) (x.n-1)=true
           . have h5i:=aI.1 h5
             go_wp2_with fail
             refine (aE _ _ _ _).mono ?_
             rintro e w2 ⟨rfl,rfl⟩;by_cases h6:inB x.vG 0 x.s=true
             . have h6i:=aI.1 h6
               clear h1 h2 h3 h4 h5 hg;go_wp2
               all_goals go_ret
               all_goals exact ⟨ag (by rw [Bool.eq_iff_iff,eB];simp;omega),B1⟩
             have h6':inB x.vG 0 x.s=false:=by simpa using h6
             have h6n:=fG.1 h6';go_wp2
             go_ret
             exact ⟨ag (by symm;refine eC (fun hc=>?_);omega),B1⟩
           have h5':inB x.lost (-1) (x.n-1)=false:=by simpa using h5
           have h5n:=fG.1 h5';go_wp2
           go_ret
           exact ⟨ag (by symm;refine eC (fun hc=>?_);omega),B1⟩
         have h4':inB x.tail 0 60000=false:=by simpa using h4
         have h4n:=fG.1 h4';go_wp2
         go_ret
         exact ⟨ag (by symm;refine eC (fun hc=>?_);omega),B1⟩
       have h3':inB x.role 0 (x.n-1)=false:=by simpa using h3
       have h3n:=fG.1 h3';go_wp2
       go_ret
       exact ⟨ag (by symm;refine eC (fun hc=>?_);omega),B1⟩
     have h2':inB x.gen 0 60000=false:=by simpa using h2
     have h2n:=fG.1 h2';go_wp2
     go_ret
     exact ⟨ag (by symm;refine eC (fun hc=>?_);omega),B1⟩
   have h1':inB x.id 1 60000=false:=by simpa using h1
   have h1n:=fG.1 h1';go_wp2
   go_ret
   exact ⟨ag (by symm;refine eC (fun hc=>?_);omega),B1⟩
 have hg':bF x.n x.s=false:=by simpa using hg
 go_wp2
 go_ret
 exact ⟨ag (by unfold eA;rw [hg'];rfl),B1⟩
theorem iH (w:World) (x:Sup):Calls Tryz.prog 275 #[.agg #[.int .i64 x.id,.int .i64 x.gen,.int .i64 x.role,.int .i64 x.n,.int .i64 x.s,.int .i64 x.tail,.int .i64 x.lost,.int .i64 x.vG]] w fun e w'=>e=.returned (.bool (eA x))/\Below w.heap.size w w':=by
 have hA:=ae w (.cells #[.int .i64 x.id,.int .i64 x.gen,.int .i64 x.role,.int .i64 x.n,.int .i64 x.s,.int .i64 x.tail,.int .i64 x.lost,.int .i64 x.vG] 150);have X:=Box.new w 150 #[.int .i64 x.id,.int .i64 x.gen,.int .i64 x.role,.int .i64 x.n,.int .i64 x.s,.int .i64 x.tail,.int .i64 x.lost,.int .i64 x.vG];obtain ⟨k0,k1,k2,k3,k4,k5,k6,k7⟩:=X.cells8;have zA:=X.lt;go_enter Tryz.func275,Tryz.ntmps275
 have hA2:=Below.andThen hA (ae (w.alloc (.cells #[.int .i64 x.id,.int .i64 x.gen,.int .i64 x.role,.int .i64 x.n,.int .i64 x.s,.int .i64 x.tail,.int .i64 x.lost,.int .i64 x.vG] 150)) (.cells #[.int .i64 x.n,.int .i64 x.s] 25));have X2:=X.alloc (.cells #[.int .i64 x.n,.int .i64 x.s] 25);have G2:=Box.new (w.alloc (.cells #[.int .i64 x.id,.int .i64 x.gen,.int .i64 x.role,.int .i64 x.n,.int .i64 x.s,.int .i64 x.tail,.int .i64 x.lost,.int .i64 x.vG] 150)) 25 #[.int .i64 x.n,.int .i64 x.s];rw [World.size_alloc] at G2;obtain ⟨j0,j1⟩:=G2.cells2;obtain ⟨i0,i1,i2,i3,i4,i5,i6,i7⟩:=X2.cells8;go_wp2_with fail
 generalize (w.alloc (.cells #[.int .i64 x.id,.int .i64 x.gen,.int .i64 x.role,.int .i64 x.n,.int .i64 x.s,.int .i64 x.tail,.int .i64 x.lost,.int .i64 x.vG] 150)).alloc (.cells #[.int .i64 x.n,.int .i64 x.s] 25)=W at hA2 X2 G2 i0 i1 i2 i3 i4 i5 i6 i7 j0 j1 ⊢;have zX:=X2.lt;have zG:=G2.lt;refine (eV _ _ _).mono ?_
 rintro e w1 ⟨rfl,b1⟩;have X1:=X2.below b1 zX;have G1:=G2.below b1 zG;have B1:=Below.andThen hA2 b1;clear k0 k1 k2 k3 k4 k5 k6 k7 i0 i1 i2 i3 i4 i5 i6 i7 j0 j1 X hA zA b1 hA2 X2 G2 zX zG;obtain ⟨k0,k1,k2,k3,k4,k5,k6,k7⟩:=X1.cells8;obtain ⟨j0,j1⟩:=G1.cells2;by_cases hg:bF x.n x.s=true
 . obtain ⟨g1,g2,g3,g4⟩:=aB.1 hg
   have gw:IntKind.i64.wrap (x.n-1)=x.n-1:=IntWalk.i64_in _ (by omega);go_wp2_with fail
   refine (lH _ _ _ _ _ ⟨g1,g2⟩).mono ?_
   rintro e w2 ⟨rfl,b2⟩;have X3:=X1.below b2 X1.lt;have G3:=G1.below b2 G1.lt;have B3:=Below.andThen B1 b2;clear k0 k1 k2 k3 k4 k5 k6 k7 j0 j1 X1 G1 B1 b2;obtain ⟨k0,k1,k2,k3,k4,k5,k6,k7⟩:=X3.cells8;obtain ⟨j0,j1⟩:=G3.cells2;by_cases hl:gP x.n x.s x.lost x.vG=true
   . have hli:=ki.1 hl
     go_wp2_with fail
     refine (bE _ _ _ _).mono ?_
     rintro e w4 ⟨rfl,rfl⟩;by_cases h1:inB x.role 0 (x.n-1)=true
     . have h1i:=aI.1 h1
       go_wp2_with fail
       refine (bE _ _ _ _).mono ?_
       rintro e w4 ⟨rfl,rfl⟩;by_cases h2:inB x.id 1 60000=true
       . have h2i:=aI.1 h2
         go_wp2_with fail
         refine (bE _ _ _ _).mono ?_
         rintro e w4 ⟨rfl,rfl⟩;by_cases h3:inB x.gen 0 60000=true
         . have h3i:=aI.1 h3
           go_wp2_with fail
           refine (bE _ _ _ _).mono ?_
           rintro e w4 ⟨rfl,rfl⟩;go_wp2
           go_ret
           exact ⟨ag (by unfold eA;rw [hg,hl,h1,h2,h3];rfl),B3⟩
         have h3':inB x.gen 0 60000=false:=by simpa using h3
         have h3n:=fG.1 h3';go_wp2
         go_ret
         exact ⟨ag (by symm;refine eC (fun hc=>?_);omega),B3⟩
       have h2':inB x.id 1 60000=false:=by simpa using h2
       have h2n:=fG.1 h2';go_wp2
       go_ret
       exact ⟨ag (by symm;refine eC (fun hc=>?_);omega),B3⟩
     have h1':inB x.role 0 (x.n-1)=false:=by simpa using h1
     have h1n:=fG.1 h1';go_wp2
     go_ret
     exact ⟨ag (by symm;refine eC (fun hc=>?_);omega),B3⟩
   have hl':gP x.n x.s x.lost x.vG=false:=by simpa using hl
   go_wp2
   go_ret
   exact ⟨ag (by unfold eA;rw [hg,hl'];rfl),B3⟩
 have hg':bF x.n x.s=false:=by simpa using hg
 go_wp2
 go_ret
 exact ⟨ag (by unfold eA;rw [hg'];rfl),B1⟩
theorem bZ (w:World) (a:Option Addr) (n cap:Nat) (zs:List Int) (h:aA.Rd w [.slice a n cap] zs) (hn:n<=2097152):
 Calls Tryz.prog 163 #[.slice a n cap] w fun e w'=>∃a' c',e=.returned (.slice a' n c')/\aA.Own w' w.heap.size w'.heap.size [.slice a' n c'] zs/\Below w.heap.size w w':=by
 obtain ⟨i0,hi,hz0,hz1,hz2⟩:=info_parts Tryz.info3;obtain ⟨hr,hl,_,_⟩:=aP h;have hA:Below w.heap.size w (w.alloc (.cells #[] 3)):=(Below.refl _ _).alloc (Nat.le_refl _) _;have hO:bj .i64 3 (w.alloc (.cells #[] 3)) w.heap.size (.slice (some ⟨w.heap.size,0,none⟩) 0 0) []:=bj.lit .i64 3 w [] 0 #[] rfl rfl (by unfold maxLen;omega);match a,h,hr with
 | none,h,_=>
  obtain ⟨rfl,rfl,rfl⟩:=lC h;go_enter Tryz.func163,Tryz.ntmps163
  go_wp2_with (at_builtin;refine wpList_append_own_none rfl _ _ 31 rfl w.heap.size 3 i0 1 Tryz.underlying31 hi _ 0 [] rfl hO rfl ?_)
  go_ret
  exact ⟨_,_,rfl,aR hO,hA⟩
 | some ad,_,hr=>
  have hr1:=hr.below hA;go_enter Tryz.func163,Tryz.ntmps163
  go_wp2_with (at_builtin;refine cZ .i64 rfl _ _ 31 rfl w.heap.size 3 i0 (.int .i64 0) 8 Tryz.underlying31 hi hz0 hz1 hz2 rfl _ [] rfl hO ad n cap zs rfl hl hr1 (by unfold maxLen;simp;omega) (by simp;omega) (by simp) ?_;intro v' w1 ho1 hb1;obtain ⟨a1,c1,hv1,_⟩:=ho1.shape;rw [List.nil_append,hl] at hv1;rw [List.nil_append] at ho1;subst hv1)
  go_ret
  exact ⟨_,_,rfl,aR ho1,hA.trans hb1⟩
def dN (x:Sup):List Int:=if eA x=true then [21317,x.id,x.gen,x.role,x.n,x.s,x.tail,x.lost+1,x.vG] else []
theorem sk {x:Sup} (h:eA x=true):dN x=[21317,x.id,x.gen,x.role,x.n,x.s,x.tail,x.lost+1,x.vG]:=by unfold dN;rw [if_pos h]
theorem pJ {x:Sup} (h:eA x=false):dN x=[]:=by unfold dN;rw [if_neg (by simp [h])]
theorem kj (w:World) (x:Sup) (hx:eA x=true):Calls Tryz.prog 280 #[.agg #[.int .i64 x.id,.int .i64 x.gen,.int .i64 x.role,.int .i64 x.n,.int .i64 x.s,.int .i64 x.tail,.int .i64 x.lost,.int .i64 x.vG]] w fun e w'=>e=.returned (.agg #[.int .i64 21317,.int .i64 x.id,.int .i64 x.gen,.int .i64 x.role,.int .i64 x.n,.int .i64 x.s,.int .i64 x.tail,.int .i64 (x.lost+1),.int .i64 x.vG])/\Below w.heap.size w w':=by
 obtain ⟨_,hl,_⟩:=eB.1 hx;have gw:IntKind.i64.wrap (x.lost+1)=x.lost+1:=IntWalk.i64_in _ (by have:=(eB.1 hx).1;omega);clear hl hx;go_enter Tryz.func280,Tryz.ntmps280
 go_wp2
 refine bodyPost_ret (v:=.agg #[.int .i64 21317,.int .i64 x.id,.int .i64 x.gen,.int .i64 x.role,.int .i64 x.n,.int .i64 x.s,.int .i64 x.tail,.int .i64 (x.lost+1),.int .i64 x.vG]) (by simp [results,Tryz.results280,go_sem]) rfl ?_
 refine ⟨rfl,?_⟩
 exact (ae w _).alloc (by simp) _
theorem gQ (w:World) (x:Sup):Calls Tryz.prog 182 #[.agg #[.int .i64 x.id,.int .i64 x.gen,.int .i64 x.role,.int .i64 x.n,.int .i64 x.s,.int .i64 x.tail,.int .i64 x.lost,.int .i64 x.vG]] w fun e w'=>∃a l c,e=.returned (.slice a l c)/\aA.Own w' w.heap.size w'.heap.size [.slice a l c] (dN x)/\Below w.heap.size w w':=by
 have hA:=ae w (.cells #[.int .i64 x.id,.int .i64 x.gen,.int .i64 x.role,.int .i64 x.n,.int .i64 x.s,.int .i64 x.tail,.int .i64 x.lost,.int .i64 x.vG] 150);have X:=Box.new w 150 #[.int .i64 x.id,.int .i64 x.gen,.int .i64 x.role,.int .i64 x.n,.int .i64 x.s,.int .i64 x.tail,.int .i64 x.lost,.int .i64 x.vG];obtain ⟨k0,k1,k2,k3,k4,k5,k6,k7⟩:=X.cells8;have zA:=X.lt;go_enter Tryz.func182,Tryz.ntmps182
 go_wp2_with fail
 generalize w.alloc (.cells #[.int .i64 x.id,.int .i64 x.gen,.int .i64 x.role,.int .i64 x.n,.int .i64 x.s,.int .i64 x.tail,.int .i64 x.lost,.int .i64 x.vG] 150)=W at hA X k0 k1 k2 k3 k4 k5 k6 k7 zA ⊢;refine (lr _ _).mono ?_
 rintro e w1 ⟨rfl,b1⟩;have X1:=X.below b1 zA;have B1:=Below.andThen hA b1;clear k0 k1 k2 k3 k4 k5 k6 k7 X b1 hA zA;obtain ⟨k0,k1,k2,k3,k4,k5,k6,k7⟩:=X1.cells8;by_cases hx:eA x=true
 . have gw:IntKind.i64.wrap (x.lost+1)=x.lost+1:=IntWalk.i64_in _ (by have:=eB.1 hx;omega)
   have HX:=aa (sk hx);go_wp2
   go_ret
   refine ⟨_,_,_,rfl,?_,B1.alloc B1.size _⟩
   rw [HX.out];exact (aR (bj.lit .i64 3 w1 [21317,x.id,x.gen,x.role,x.n,x.s,x.tail,x.lost+1,x.vG] 9 _ (by simp) rfl (by unfold maxLen;omega))).widen B1.size (Nat.le_refl _)
 have hx':eA x=false:=by simpa using hx
 have HX:=aa (pJ hx');go_wp2
 go_ret
 refine ⟨_,_,_,rfl,?_,B1.alloc B1.size _⟩
 rw [HX.out];exact (aR (bj.lit .i64 3 w1 [] 0 #[] rfl rfl (by unfold maxLen;omega))).widen B1.size (Nat.le_refl _)
theorem gR (w:World) (x:Sup):Calls Tryz.prog 277 #[.agg #[.int .i64 x.id,.int .i64 x.gen,.int .i64 x.role,.int .i64 x.n,.int .i64 x.s,.int .i64 x.tail,.int .i64 x.lost,.int .i64 x.vG]] w fun e w'=>∃a l c,e=.returned (.slice a l c)/\aA.Own w' w.heap.size w'.heap.size [.slice a l c] (dN x)/\Below w.heap.size w w':=by
 have hA:=ae w (.cells #[.int .i64 x.id,.int .i64 x.gen,.int .i64 x.role,.int .i64 x.n,.int .i64 x.s,.int .i64 x.tail,.int .i64 x.lost,.int .i64 x.vG] 150);have X:=Box.new w 150 #[.int .i64 x.id,.int .i64 x.gen,.int .i64 x.role,.int .i64 x.n,.int .i64 x.s,.int .i64 x.tail,.int .i64 x.lost,.int .i64 x.vG];obtain ⟨k0,k1,k2,k3,k4,k5,k6,k7⟩:=X.cells8;have zA:=X.lt;go_enter Tryz.func277,Tryz.ntmps277
 go_wp2_with fail
 generalize w.alloc (.cells #[.int .i64 x.id,.int .i64 x.gen,.int .i64 x.role,.int .i64 x.n,.int .i64 x.s,.int .i64 x.tail,.int .i64 x.lost,.int .i64 x.vG] 150)=W at hA X k0 k1 k2 k3 k4 k5 k6 k7 zA ⊢;refine (iH _ _).mono ?_
 rintro e w1 ⟨rfl,b1⟩;have X1:=X.below b1 zA;have B1:=Below.andThen hA b1;clear k0 k1 k2 k3 k4 k5 k6 k7 X b1 hA zA;obtain ⟨k0,k1,k2,k3,k4,k5,k6,k7⟩:=X1.cells8;by_cases hx:eA x=true
 . have HX:=aa (sk hx)
   go_wp2_with fail
   refine (kj _ _ hx).mono ?_
   rintro e w2 ⟨rfl,b2⟩;have B2:=Below.andThen B1 b2;clear k0 k1 k2 k3 k4 k5 k6 k7 X1 b2 B1;have hR:aA.Rd (w2.alloc (.cells #[.int .i64 21317,.int .i64 x.id,.int .i64 x.gen,.int .i64 x.role,.int .i64 x.n,.int .i64 x.s,.int .i64 x.tail,.int .i64 (x.lost+1),.int .i64 x.vG] 214)) [.slice (some ⟨w2.heap.size,0,none⟩) 9 9] [21317,x.id,x.gen,x.role,x.n,x.s,x.tail,x.lost+1,x.vG]:=qH (zs:=[21317,x.id,x.gen,x.role,x.n,x.s,x.tail,x.lost+1,x.vG]) (aK.new .i64 w2 214 _ _ (by simp)) (by simp) (by omega) (by simp);have B3:=B2.alloc B2.size (.cells #[.int .i64 21317,.int .i64 x.id,.int .i64 x.gen,.int .i64 x.role,.int .i64 x.n,.int .i64 x.s,.int .i64 x.tail,.int .i64 (x.lost+1),.int .i64 x.vG] 214);have z3:=B3.size;go_wp2_with fail
   generalize w2.alloc (.cells #[.int .i64 21317,.int .i64 x.id,.int .i64 x.gen,.int .i64 x.role,.int .i64 x.n,.int .i64 x.s,.int .i64 x.tail,.int .i64 (x.lost+1),.int .i64 x.vG] 214)=w3 at hR B3 z3 ⊢;refine (bZ _ _ _ _ _ hR (by omega)).mono ?_
   rintro e w4 ⟨a',c',rfl,o4,b4⟩;go_wp2
   go_ret
   refine ⟨_,_,_,rfl,?_,Below.andThen B3 b4⟩
   rw [HX.out];exact o4.widen z3 (Nat.le_refl _)
 have hx':eA x=false:=by simpa using hx
 have HX:=aa (pJ hx');go_wp2
 go_ret
 refine ⟨_,_,_,rfl,?_,B1.alloc B1.size _⟩
 rw [HX.out];exact (aR (bj.lit .i64 3 w1 [] 0 #[] rfl rfl (by unfold maxLen;omega))).widen B1.size (Nat.le_refl _)
theorem lI (g:Int) (w:World) (h:0<=g):Calls Tryz.prog 276 #[.int .i64 g] w fun e w'=>e=.returned (.int .i64 (g % 2))/\w'=w:=by
 have e1:g.tmod 2=g % 2:=Int.tmod_eq_emod_of_nonneg h;go_enter Tryz.func276,Tryz.ntmps276
 go_wp2
 go_ret
 exact ⟨aG (by first|rfl|exact e1),rfl⟩
end Go.Proofs.YtejeekndbnpmoaaGreat
