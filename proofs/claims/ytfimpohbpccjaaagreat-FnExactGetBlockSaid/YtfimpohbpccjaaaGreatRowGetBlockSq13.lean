/-
 The walk of the specification's l8Put: an entry put in its place. Condition: at most 500000 entries.
-/
import Derived.Test.YtfimpohbpccjaaaGreatRowGetBlockSq3
import Derived.Test.YtfimpohbpccjaaaGreatRowGetBlockSq11
import Derived.Test.YtfimpohbpccjaaaGreatRowGetBlockSq12

set_option maxRecDepth 100000
set_option maxHeartbeats 8000000
set_option linter.unusedSimpArgs false

namespace Go.Proofs.YtfimpohbpccjaaaGreat
open Go.RowKit

theorem bO {x:aw} {ds:List (Int×List Int)} {i:Nat} {d:Int×List Int} (hx:ds[i]?=some d) (h:bJ x ds i d=false):dd x ds=false:=cK hx h
theorem gU {x:aw} {ds:List (Int×List Int)} {i:Nat} {y:Int} {zs:List Int} (h:inB y 0 (x.s-1)=false):bJ x ds i (y,zs)=false:=by unfold bJ;rw [h];rfl
theorem fu {x:aw} {ds:List (Int×List Int)} {i:Nat} {y:Int} {zs:List Int} (h:¬(zs.length:Int)=x.n-1):bJ x ds i (y,zs)=false:=by unfold bJ;simp [h]
theorem fv {x:aw} {ds:List (Int×List Int)} {i:Nat} {y:Int} {zs:List Int} (h:dm zs=false):bJ x ds i (y,zs)=false:=by unfold bJ;simp [h]
theorem gV {x:aw} {ds:List (Int×List Int)} {y:Int} {zs:List Int} (h1:inB y 0 (x.s-1)=true) (h2:(zs.length:Int)=x.n-1) (h3:dm zs=true):bJ x ds 0 (y,zs)=true:=by unfold bJ;simp [h1,h2,h3]
theorem gW {x:aw} {ds:List (Int×List Int)} {p:Nat} {y:Int} {zs:List Int} {q:Int×List Int} (h1:inB y 0 (x.s-1)=true) (h2:(zs.length:Int)=x.n-1) (h3:dm zs=true) (hq:ds[p]?=some q):bJ x ds (p+1) (y,zs)=decide (q.1<y):=by
 unfold bJ;rw [h1,h3];have:ds.getD (p+1-1) (0,[])=q:=by rw [Nat.add_sub_cancel,List.getD_eq_getElem?_getD,hq];rfl
 simp only [h2,decide_true,Bool.true_and,this]
 simp
theorem fN (w:World) (G:TypeId) (x:aw) (am ad:Option Addr) (nm cm nd cd:Nat) (ds:List (Int×List Int)) (h0:(aV G).Rd w [.slice ad nd cd] ds) (hw:aA ds<=2097152) (hg:bo x.n x.s=true):
 Calls Tryz.prog 47 #[.agg #[.int .i64 x.id,.int .i64 x.n,.int .i64 x.s,.slice am nm cm,.int .i64 x.lost,.int .i64 x.jh,.int .i64 x.seq,.int .i64 x.tail,.int .i64 x.gen,.slice ad nd cd,.int .i64 x.jj,.bool x.down,.bool x.ji]] w fun e w'=>e=.returned (.bool (dd x ds))/\Below w.heap.size w w':=by
 obtain ⟨hl,hc,hm⟩:=ag h0;obtain ⟨g1,g2,g3,g4⟩:=ap.1 hg;have hA:=af w (.cells #[.int .i64 x.id,.int .i64 x.n,.int .i64 x.s,.slice am nm cm,.int .i64 x.lost,.int .i64 x.jh,.int .i64 x.seq,.int .i64 x.tail,.int .i64 x.gen,.slice ad nd cd,.int .i64 x.jj,.bool x.down,.bool x.ji] 35);have X:=Box.new w 35 #[.int .i64 x.id,.int .i64 x.n,.int .i64 x.s,.slice am nm cm,.int .i64 x.lost,.int .i64 x.jh,.int .i64 x.seq,.int .i64 x.tail,.int .i64 x.gen,.slice ad nd cd,.int .i64 x.jj,.bool x.down,.bool x.ji];have zA:=X.lt;have hnd:nd<=2097152:=by unfold aA at hw;omega
 have h1:=h0.below hA;have hws:IntKind.i64.wrap (x.s-1)=x.s-1:=IntWalk.i64_in _ (by omega);have hwn:IntKind.i64.wrap (x.n-1)=x.n-1:=IntWalk.i64_in _ (by omega);go_enter Tryz.func47,Tryz.ntmps47
 go_wp2
 generalize w.alloc (.cells #[.int .i64 x.id,.int .i64 x.n,.int .i64 x.s,.slice am nm cm,.int .i64 x.lost,.int .i64 x.jh,.int .i64 x.seq,.int .i64 x.tail,.int .i64 x.gen,.slice ad nd cd,.int .i64 x.jj,.bool x.down,.bool x.ji] 35)=W at hA X zA h1 ⊢;go_loopw [3] (fun i wr=>∃j:Nat,j<=nd/\i=.int .i64 j/\(∀(q:Nat) (d:Int×List Int),q<j->ds[q]?=some d->bJ x ds q d=true)/\Below W.heap.size W wr) (fun i _=>nd-(intOf i).toNat)
 case atStart=>exact ⟨0,Nat.zero_le _,rfl,fun q d hq=>by omega,Below.refl _ _⟩
 obtain ⟨j,hj,rfl,hall,hb⟩:=hrel;have Xr:=X.below hb zA;obtain ⟨k0,k1,k2,k3,k4,k5,k6,k7,k8,k9,k10,k11,k12⟩:=Xr.cells13;by_cases hjn:j<nd
 . rcases aX rfl h1 with h0'|⟨b,off,rfl,hbl,hcs⟩
   . omega
   have hdj:ds[j]?=some (ds[j]'(by omega)):=List.getElem?_eq_getElem (by omega);generalize ds[j]'(by omega)=d at hdj;obtain ⟨v0,v1,hv0,hv1,hrv⟩:=hcs j d hdj;obtain ⟨rfl,hrw⟩:=bN hrv;obtain ⟨av,cv,rfl⟩:=aq hrw;obtain ⟨y,zs⟩:=d;simp only at hv0 hv1 hrw hrv
   have u0:=(hb.cell (p:=⟨b,off+j*2,none⟩) hbl).trans hv0;have u1:=(hb.cell (p:=⟨b,off+j*2+1,none⟩) hbl).trans hv1;have i1:(0:Int)<=(j:Int):=by omega
   have i2:(j:Int)<(nd:Int):=by omega
   have hwz:zs.length<=2097152:=Nat.le_trans (bE hdj) hw;have HDJ:=ab hdj;have b1:=af wr (.cells #[.int .i64 y,.slice av zs.length cv] 63);have Y1:=Box.new wr 63 #[.int .i64 y,.slice av zs.length cv];have X1:=Xr.below b1 Xr.lt;have RZ:=(az ((hrw.below hb).below b1)).1;have B1:=hb.trans (b1.mono hb.size);obtain ⟨y0,y1⟩:=Y1.cells2;obtain ⟨e0,e1,e2,e3,e4,e5,e6,e7,e8,e9,e10,e11,e12⟩:=X1.cells13;have hq:∀(p:Nat) (q:Int×List Int),ds[p]?=some q->(wr.alloc (.cells #[.int .i64 y,.slice av zs.length cv] 63)).cell? ⟨b,off+p*2,none⟩=some (.int .i64 q.1):=fun p q hpq=>by
    obtain ⟨c0,c1,hc0,hc1,hrc⟩:=hcs p q hpq;obtain ⟨rfl,_⟩:=bN hrc;exact (B1.cell (p:=⟨b,off+p*2,none⟩) hbl).trans hc0
   have HQ:=ab hq;clear hcs hv0 hv1 hrv hrw hdj hq b1 e0 e3 e4 e5 e6 e7 e8 e10 e11 e12;cases hI:inB y 0 (x.s-1)
   . skip
     go_wp2_with fail
     generalize wr.alloc (.cells #[.int .i64 y,.slice av zs.length cv] 63)=w1 at X1 Y1 RZ B1 y0 y1 e1 e2 e9 HQ ⊢;refine wp_region_held_drew (S:=fun w'=>w'.cell? ⟨wr.heap.size,0,none⟩=some (.int .i64 y)/\w'.cell? ⟨wr.heap.size,1,none⟩=some (.slice av zs.length cv)/\w'.cell? ⟨w.heap.size,1,none⟩=some (.int .i64 x.n)/\w'.cell? ⟨w.heap.size,2,none⟩=some (.int .i64 x.s)/\w'.cell? ⟨w.heap.size,9,none⟩=some (.slice (some ⟨b,off,none⟩) nd cd)) (by kernel_rfl) ?_ (fun jg=>?_)
     . exact ⟨y0,y1,e1,e2,e9⟩
     refine aa 0 jg ?_
     refine aa 1 jg ?_
     refine aa 2 jg ?_
     refine aa 3 jg ?_
     refine aa 4 jg ?_
     refine aa 5 jg ?_
     refine ah (i:=6) (by kernel_rfl) rfl (by kernel_rfl) (fun K hK=>?_)
     go_simp
     refine (al _ _ _ _).mono ?_
     rintro e w2 ⟨rfl,hw2⟩;subst hw2;rw [hI];go_wp2_with fail
     clear jg;refine hK.out _ _ ?_ (fun jg=>?_)
     . exact ⟨y0,y1,e1,e2,e9⟩
     clear hK K;refine aa 7 jg ?_
     refine aa 8 jg ?_
     refine ae 9 jg ?_
     refine ae 10 jg ?_
     refine ae 11 jg ?_
     refine ae 12 jg ?_
     refine ae 13 jg ?_
     refine ae 14 jg ?_
     refine ae 15 jg ?_
     refine ae 16 jg ?_
     refine aa 17 jg ?_
     refine aa 18 jg ?_
     refine ae 19 jg ?_
     refine ae 20 jg ?_
     refine cF (i:=21) (by kernel_rfl) rfl (by kernel_rfl) jg ?_
     simp only [Act.put,List.setIfInBounds_toArray,List.set_cons_zero,List.set_cons_succ]
     refine ae 22 jg ?_
     refine aa 23 jg ?_
     refine aa 24 jg ?_
     refine ae 25 jg ?_
     refine ae 26 jg ?_
     refine ae 27 jg ?_
     refine ae 28 jg ?_
     refine ae 29 jg ?_
     refine ae 30 jg ?_
     refine ae 31 jg ?_
     refine ae 32 jg ?_
     refine ae 33 jg ?_
     refine ae 34 jg ?_
     refine ae 35 jg ?_
     refine ae 36 jg ?_
     refine ae 37 jg ?_
     refine ae 38 jg ?_
     refine aa 39 jg ?_
     refine wpAnyH_done (by kernel_rfl) ?_ _
     clear jg;have HB:=ab (hA.trans (B1.drew.mono hA.size));have HE:=ab (bO (x:=x) HDJ.out (gU hI));go_wp2
     go_ret
     exact ⟨ac HE.out.symm,HB.out⟩
   by_cases hL:(zs.length:Int)=x.n-1
   . have hL1:((zs.length:Int)==x.n-1)=true:=by simpa using hL
     have hL2:((zs.length:Int) !=x.n-1)=false:=by simpa using hL
     have HL:=ab hL;clear hL;cases hZ:dm zs
     . skip
       go_wp2_with fail
       generalize wr.alloc (.cells #[.int .i64 y,.slice av zs.length cv] 63)=w1 at X1 Y1 RZ B1 y0 y1 e1 e2 e9 HQ ⊢;refine wp_region_held_drew (S:=fun w'=>w'.cell? ⟨wr.heap.size,0,none⟩=some (.int .i64 y)/\w'.cell? ⟨wr.heap.size,1,none⟩=some (.slice av zs.length cv)/\w'.cell? ⟨w.heap.size,1,none⟩=some (.int .i64 x.n)/\w'.cell? ⟨w.heap.size,2,none⟩=some (.int .i64 x.s)/\w'.cell? ⟨w.heap.size,9,none⟩=some (.slice (some ⟨b,off,none⟩) nd cd)) (by kernel_rfl) ?_ (fun jg=>?_)
       . exact ⟨y0,y1,e1,e2,e9⟩
       refine aa 0 jg ?_
       refine aa 1 jg ?_
       refine aa 2 jg ?_
       refine aa 3 jg ?_
       refine aa 4 jg ?_
       refine aa 5 jg ?_
       refine ah (i:=6) (by kernel_rfl) rfl (by kernel_rfl) (fun K hK=>?_)
       go_simp
       refine (al _ _ _ _).mono ?_
       rintro e w2 ⟨rfl,hw2⟩;subst hw2;rw [hI];go_wp2_with fail
       clear jg;refine hK.out _ _ ?_ (fun jg=>?_)
       . exact ⟨y0,y1,e1,e2,e9⟩
       clear hK K;refine aa 7 jg ?_
       refine aa 8 jg ?_
       refine aa 9 jg ?_
       refine aa 10 jg ?_
       refine aa 11 jg ?_
       refine aa 12 jg ?_
       refine aa 13 jg ?_
       refine aa 14 jg ?_
       refine aa 15 jg ?_
       refine aa 16 jg ?_
       refine aa 17 jg ?_
       refine aa 18 jg ?_
       refine aa 19 jg ?_
       refine aa 20 jg ?_
       refine ah (i:=21) (by kernel_rfl) rfl (by kernel_rfl) (fun K hK=>?_)
       go_simp
       refine (cr _ _ _ _ zs rfl RZ.draw hwz).mono ?_
       rintro e w2 ⟨rfl,hw2⟩;subst hw2;rw [hZ];go_wp2_with fail
       clear jg;refine hK.out _ _ ?_ (fun jg=>?_)
       . exact ⟨y0,y1,e1,e2,e9⟩
       clear hK K;refine aa 22 jg ?_
       refine aa 23 jg ?_
       refine aa 24 jg ?_
       refine ae 25 jg ?_
       refine ae 26 jg ?_
       refine ae 27 jg ?_
       refine ae 28 jg ?_
       refine ae 29 jg ?_
       refine ae 30 jg ?_
       refine ae 31 jg ?_
       refine ae 32 jg ?_
       refine ae 33 jg ?_
       refine ae 34 jg ?_
       refine ae 35 jg ?_
       refine ae 36 jg ?_
       refine ae 37 jg ?_
       refine ae 38 jg ?_
       refine aa 39 jg ?_
       refine wpAnyH_done (by kernel_rfl) ?_ _
       clear jg;have HB:=ab (hA.trans (B1.drew.mono hA.size));have HE:=ab (bO (x:=x) HDJ.out (fv hZ));go_wp2
       go_ret
       exact ⟨ac HE.out.symm,HB.out⟩
     by_cases hj0:j=0
     . subst hj0
       simp only [Nat.zero_mul,Nat.add_zero] at u0 u1
       go_wp2_with fail
       generalize wr.alloc (.cells #[.int .i64 y,.slice av zs.length cv] 63)=w1 at X1 Y1 RZ B1 y0 y1 e1 e2 e9 HQ ⊢;refine wp_region_held_drew (S:=fun w'=>w'.cell? ⟨wr.heap.size,0,none⟩=some (.int .i64 y)/\w'.cell? ⟨wr.heap.size,1,none⟩=some (.slice av zs.length cv)/\w'.cell? ⟨w.heap.size,1,none⟩=some (.int .i64 x.n)/\w'.cell? ⟨w.heap.size,2,none⟩=some (.int .i64 x.s)/\w'.cell? ⟨w.heap.size,9,none⟩=some (.slice (some ⟨b,off,none⟩) nd cd)) (by kernel_rfl) ?_ (fun jg=>?_)
       . exact ⟨y0,y1,e1,e2,e9⟩
       refine aa 0 jg ?_
       refine aa 1 jg ?_
       refine aa 2 jg ?_
       refine aa 3 jg ?_
       refine aa 4 jg ?_
       refine aa 5 jg ?_
       refine ah (i:=6) (by kernel_rfl) rfl (by kernel_rfl) (fun K hK=>?_)
       go_simp
       refine (al _ _ _ _).mono ?_
       rintro e w2 ⟨rfl,hw2⟩;subst hw2;rw [hI];go_wp2_with fail
       clear jg;refine hK.out _ _ ?_ (fun jg=>?_)
       . exact ⟨y0,y1,e1,e2,e9⟩
       clear hK K;refine aa 7 jg ?_
       refine aa 8 jg ?_
       refine aa 9 jg ?_
       refine aa 10 jg ?_
       refine aa 11 jg ?_
       refine aa 12 jg ?_
       refine aa 13 jg ?_
       refine aa 14 jg ?_
       refine aa 15 jg ?_
       refine aa 16 jg ?_
       refine aa 17 jg ?_
       refine aa 18 jg ?_
       refine aa 19 jg ?_
       refine aa 20 jg ?_
       refine ah (i:=21) (by kernel_rfl) rfl (by kernel_rfl) (fun K hK=>?_)
       go_simp
       refine (cr _ _ _ _ zs rfl RZ.draw hwz).mono ?_
       rintro e w2 ⟨rfl,hw2⟩;subst hw2;rw [hZ];go_wp2_with fail
       clear jg;refine hK.out _ _ ?_ (fun jg=>?_)
       . exact ⟨y0,y1,e1,e2,e9⟩
       clear hK K;refine aa 22 jg ?_
       refine aa 23 jg ?_
       refine aa 24 jg ?_
       refine aa 25 jg ?_
       refine aa 26 jg ?_
       refine aa 27 jg ?_
       refine ae 28 jg ?_
       refine ae 29 jg ?_
       refine ae 30 jg ?_
       refine ae 31 jg ?_
       refine ae 32 jg ?_
       refine ae 33 jg ?_
       refine ae 34 jg ?_
       refine ae 35 jg ?_
       refine ae 36 jg ?_
       refine ae 37 jg ?_
       refine aa 38 jg ?_
       refine aa 39 jg ?_
       refine wpAnyH_done (by kernel_rfl) ?_ _
       clear jg;have HB:=ab B1.drew;have hat:bJ x ds (0) (y,zs)=true:=gV hI HL.out hZ;go_wp2
       go_roundw
       case rel=>exact ⟨0+1,by omega,by go_num,fun q d hq hm'=>by
        rcases Nat.lt_or_ge q (0) with h|h
        . exact hall q d h hm'
        obtain rfl:q=0:=by omega
        rw [HDJ.out] at hm';cases hm';exact hat,HB.out⟩
       case measure=>simp [intOf];omega
     obtain ⟨p,rfl⟩:∃p,j=p+1:=⟨j-1,by omega⟩;have hpq:ds[p]?=some (ds[p]'(by omega)):=List.getElem?_eq_getElem (by omega);generalize ds[p]'(by omega)=q at hpq;have hE:=gW hI HL.out hZ hpq;have qc:=HQ.out p q hpq;obtain ⟨s,zq⟩:=q;simp only at qc hE
     have HE5:=ab hE;clear hpq hE;have j1:IntKind.i64.wrap (((p+1:Nat):Int)-1)=(p:Int):=by rw [IntWalk.i64_in _ (by omega)];omega
     have j2:IntKind.i64.wrap ((p:Int)+1-1)=(p:Int):=by rw [IntWalk.i64_in _ (by omega)];omega
     have j3:IntKind.i64.wrap (p:Int)=(p:Int):=IntWalk.i64_in _ (by omega);have j4:(0:Int)<=(p:Int):=by omega
     have j5:(p:Int)<(nd:Int):=by omega
     have j6:(0:Int)<((p+1:Nat):Int):=by omega
     by_cases hlt:s<y
     . have hd1:decide (s<y)=true:=by simpa using hlt
       have hge:¬y<=s:=by omega
       go_wp2_with fail
       generalize wr.alloc (.cells #[.int .i64 y,.slice av zs.length cv] 63)=w1 at X1 Y1 RZ B1 y0 y1 e1 e2 e9 HQ qc ⊢;refine wp_region_held_drew (S:=fun w'=>w'.cell? ⟨wr.heap.size,0,none⟩=some (.int .i64 y)/\w'.cell? ⟨wr.heap.size,1,none⟩=some (.slice av zs.length cv)/\w'.cell? ⟨w.heap.size,1,none⟩=some (.int .i64 x.n)/\w'.cell? ⟨w.heap.size,2,none⟩=some (.int .i64 x.s)/\w'.cell? ⟨w.heap.size,9,none⟩=some (.slice (some ⟨b,off,none⟩) nd cd)/\w'.cell? ⟨b,off+p*2,none⟩=some (.int .i64 s)) (by kernel_rfl) ?_ (fun jg=>?_)
       . exact ⟨y0,y1,e1,e2,e9,qc⟩
       refine aa 0 jg ?_
       refine aa 1 jg ?_
       refine aa 2 jg ?_
       refine aa 3 jg ?_
       refine aa 4 jg ?_
       refine aa 5 jg ?_
       refine ah (i:=6) (by kernel_rfl) rfl (by kernel_rfl) (fun K hK=>?_)
       go_simp
       refine (al _ _ _ _).mono ?_
       rintro e w2 ⟨rfl,hw2⟩;subst hw2;rw [hI];go_wp2_with fail
       clear jg;refine hK.out _ _ ?_ (fun jg=>?_)
       . exact ⟨y0,y1,e1,e2,e9,qc⟩
       clear hK K;refine aa 7 jg ?_
       refine aa 8 jg ?_
       refine aa 9 jg ?_
       refine aa 10 jg ?_
       refine aa 11 jg ?_
       refine aa 12 jg ?_
       refine aa 13 jg ?_
       refine aa 14 jg ?_
       refine aa 15 jg ?_
       refine aa 16 jg ?_
       refine aa 17 jg ?_
       refine aa 18 jg ?_
       refine aa 19 jg ?_
       refine aa 20 jg ?_
       refine ah (i:=21) (by kernel_rfl) rfl (by kernel_rfl) (fun K hK=>?_)
       go_simp
       refine (cr _ _ _ _ zs rfl RZ.draw hwz).mono ?_
       rintro e w2 ⟨rfl,hw2⟩;subst hw2;rw [hZ];go_wp2_with fail
       clear jg;refine hK.out _ _ ?_ (fun jg=>?_)
       . exact ⟨y0,y1,e1,e2,e9,qc⟩
       clear hK K;refine aa 22 jg ?_
       refine aa 23 jg ?_
       refine aa 24 jg ?_
       refine aa 25 jg ?_
       refine aa 26 jg ?_
       refine aa 27 jg ?_
       refine aa 28 jg ?_
       refine aa 29 jg ?_
       refine aa 30 jg ?_
       refine aa 31 jg ?_
       refine aa 32 jg ?_
       refine aa 33 jg ?_
       refine aa 34 jg ?_
       refine aa 35 jg ?_
       refine aa 36 jg ?_
       refine aa 37 jg ?_
       refine aa 38 jg ?_
       refine aa 39 jg ?_
       refine wpAnyH_done (by kernel_rfl) ?_ _
       clear jg;have HB:=ab B1.drew;have hat:bJ x ds (p+1) (y,zs)=true:=HE5.out.trans hd1;go_wp2
       go_roundw
       case rel=>exact ⟨p+1+1,by omega,by go_num,fun q d hq hm'=>by
        rcases Nat.lt_or_ge q (p+1) with h|h
        . exact hall q d h hm'
        obtain rfl:q=p+1:=by omega
        rw [HDJ.out] at hm';cases hm';exact hat,HB.out⟩
       case measure=>simp [intOf];omega
     have hd1:decide (s<y)=false:=by simpa using hlt
     have hge:y<=s:=by omega
     go_wp2_with fail
     generalize wr.alloc (.cells #[.int .i64 y,.slice av zs.length cv] 63)=w1 at X1 Y1 RZ B1 y0 y1 e1 e2 e9 HQ qc ⊢;refine wp_region_held_drew (S:=fun w'=>w'.cell? ⟨wr.heap.size,0,none⟩=some (.int .i64 y)/\w'.cell? ⟨wr.heap.size,1,none⟩=some (.slice av zs.length cv)/\w'.cell? ⟨w.heap.size,1,none⟩=some (.int .i64 x.n)/\w'.cell? ⟨w.heap.size,2,none⟩=some (.int .i64 x.s)/\w'.cell? ⟨w.heap.size,9,none⟩=some (.slice (some ⟨b,off,none⟩) nd cd)/\w'.cell? ⟨b,off+p*2,none⟩=some (.int .i64 s)) (by kernel_rfl) ?_ (fun jg=>?_)
     . exact ⟨y0,y1,e1,e2,e9,qc⟩
     refine aa 0 jg ?_
     refine aa 1 jg ?_
     refine aa 2 jg ?_
     refine aa 3 jg ?_
     refine aa 4 jg ?_
     refine aa 5 jg ?_
     refine ah (i:=6) (by kernel_rfl) rfl (by kernel_rfl) (fun K hK=>?_)
     go_simp
     refine (al _ _ _ _).mono ?_
     rintro e w2 ⟨rfl,hw2⟩;subst hw2;rw [hI];go_wp2_with fail
     clear jg;refine hK.out _ _ ?_ (fun jg=>?_)
     . exact ⟨y0,y1,e1,e2,e9,qc⟩
     clear hK K;refine aa 7 jg ?_
     refine aa 8 jg ?_
     refine aa 9 jg ?_
     refine aa 10 jg ?_
     refine aa 11 jg ?_
     refine aa 12 jg ?_
     refine aa 13 jg ?_
     refine aa 14 jg ?_
     refine aa 15 jg ?_
     refine aa 16 jg ?_
     refine aa 17 jg ?_
     refine aa 18 jg ?_
     refine aa 19 jg ?_
     refine aa 20 jg ?_
     refine ah (i:=21) (by kernel_rfl) rfl (by kernel_rfl) (fun K hK=>?_)
     go_simp
     refine (cr _ _ _ _ zs rfl RZ.draw hwz).mono ?_
     rintro e w2 ⟨rfl,hw2⟩;subst hw2;rw [hZ];go_wp2_with fail
     clear jg;refine hK.out _ _ ?_ (fun jg=>?_)
     . exact ⟨y0,y1,e1,e2,e9,qc⟩
     clear hK K;refine aa 22 jg ?_
     refine aa 23 jg ?_
     refine aa 24 jg ?_
     refine aa 25 jg ?_
     refine aa 26 jg ?_
     refine aa 27 jg ?_
     refine aa 28 jg ?_
     refine aa 29 jg ?_
     refine aa 30 jg ?_
     refine aa 31 jg ?_
     refine aa 32 jg ?_
     refine aa 33 jg ?_
     refine aa 34 jg ?_
     refine aa 35 jg ?_
     refine aa 36 jg ?_
     refine aa 37 jg ?_
     refine aa 38 jg ?_
     refine aa 39 jg ?_
     refine wpAnyH_done (by kernel_rfl) ?_ _
     clear jg;have HB:=ab (hA.trans (B1.drew.mono hA.size));have HE:=ab (bO (x:=x) HDJ.out (HE5.out.trans hd1));go_wp2
     go_ret
     exact ⟨ac HE.out.symm,HB.out⟩
   have hL1:((zs.length:Int)==x.n-1)=false:=by simpa using hL
   have hL2:((zs.length:Int) !=x.n-1)=true:=by simpa using hL
   have HL:=ab hL;clear hL;go_wp2_with fail
   generalize wr.alloc (.cells #[.int .i64 y,.slice av zs.length cv] 63)=w1 at X1 Y1 RZ B1 y0 y1 e1 e2 e9 HQ ⊢;refine wp_region_held_drew (S:=fun w'=>w'.cell? ⟨wr.heap.size,0,none⟩=some (.int .i64 y)/\w'.cell? ⟨wr.heap.size,1,none⟩=some (.slice av zs.length cv)/\w'.cell? ⟨w.heap.size,1,none⟩=some (.int .i64 x.n)/\w'.cell? ⟨w.heap.size,2,none⟩=some (.int .i64 x.s)/\w'.cell? ⟨w.heap.size,9,none⟩=some (.slice (some ⟨b,off,none⟩) nd cd)) (by kernel_rfl) ?_ (fun jg=>?_)
   . exact ⟨y0,y1,e1,e2,e9⟩
   refine aa 0 jg ?_
   refine aa 1 jg ?_
   refine aa 2 jg ?_
   refine aa 3 jg ?_
   refine aa 4 jg ?_
   refine aa 5 jg ?_
   refine ah (i:=6) (by kernel_rfl) rfl (by kernel_rfl) (fun K hK=>?_)
   go_simp
   refine (al _ _ _ _).mono ?_
   rintro e w2 ⟨rfl,hw2⟩;subst hw2;rw [hI];go_wp2_with fail
   clear jg;refine hK.out _ _ ?_ (fun jg=>?_)
   . exact ⟨y0,y1,e1,e2,e9⟩
   clear hK K;refine aa 7 jg ?_
   refine aa 8 jg ?_
   refine aa 9 jg ?_
   refine aa 10 jg ?_
   refine aa 11 jg ?_
   refine aa 12 jg ?_
   refine aa 13 jg ?_
   refine aa 14 jg ?_
   refine aa 15 jg ?_
   refine aa 16 jg ?_
   refine aa 17 jg ?_
   refine aa 18 jg ?_
   refine ae 19 jg ?_
   refine ae 20 jg ?_
   refine cF (i:=21) (by kernel_rfl) rfl (by kernel_rfl) jg ?_
   simp only [Act.put,List.setIfInBounds_toArray,List.set_cons_zero,List.set_cons_succ]
   refine ae 22 jg ?_
   refine aa 23 jg ?_
   refine aa 24 jg ?_
   refine ae 25 jg ?_
   refine ae 26 jg ?_
   refine ae 27 jg ?_
   refine ae 28 jg ?_
   refine ae 29 jg ?_
   refine ae 30 jg ?_
   refine ae 31 jg ?_
   refine ae 32 jg ?_
   refine ae 33 jg ?_
   refine ae 34 jg ?_
   refine ae 35 jg ?_
   refine ae 36 jg ?_
   refine ae 37 jg ?_
   refine ae 38 jg ?_
   refine aa 39 jg ?_
   refine wpAnyH_done (by kernel_rfl) ?_ _
   clear jg;have HB:=ab (hA.trans (B1.drew.mono hA.size));have HE:=ab (bO (x:=x) HDJ.out (fu HL.out));go_wp2
   go_ret
   exact ⟨ac HE.out.symm,HB.out⟩
 have ej:j=nd:=by omega
 subst ej;have hAll:dd x ds=true:=cg.2 (fun q d hq=>hall q d (by have:=(List.getElem?_eq_some_iff.1 hq).1;omega) hq);have HB:=ab (hA.trans (hb.mono hA.size));go_wp2
 go_ret
 exact ⟨ac hAll.symm,HB.out⟩
def cz (x:aw) (ms:List ax) (m s:Int):Bool:=inB m 0 ((ms.length:Int)-1)&&(!(ms.getD m.toNat ([],[],false,[])).2.2.1&&(!decide (m=x.lost)||decide (s<x.jh)))
theorem eT (w:World) (E F G:TypeId) (x:aw) (am ad:Option Addr) (nm cm nd cd:Nat) (ms:List ax) (ds:List (Int×List Int)) (h0:(bf E F).Rd w [.slice am nm cm] ms) (h1:(aV G).Rd w [.slice ad nd cd] ds) (hw:bh ms ds<=2097152):
 Calls Tryz.prog 27 #[.agg #[.int .i64 x.id,.int .i64 x.n,.int .i64 x.s,.slice am nm cm,.int .i64 x.lost,.int .i64 x.jh,.int .i64 x.seq,.int .i64 x.tail,.int .i64 x.gen,.slice ad nd cd,.int .i64 x.jj,.bool x.down,.bool x.ji]] w fun e w'=>e=.returned (.bool (aS x ms ds))/\Below w.heap.size w w':=by
 have hwm:aE ms<=2097152:=by unfold bh at hw;omega
 have hwd:aA ds<=2097152:=by unfold bh at hw;omega
 have hA:=af w (.cells #[.int .i64 x.id,.int .i64 x.n,.int .i64 x.s,.slice am nm cm,.int .i64 x.lost,.int .i64 x.jh,.int .i64 x.seq,.int .i64 x.tail,.int .i64 x.gen,.slice ad nd cd,.int .i64 x.jj,.bool x.down,.bool x.ji] 35);have X:=Box.new w 35 #[.int .i64 x.id,.int .i64 x.n,.int .i64 x.s,.slice am nm cm,.int .i64 x.lost,.int .i64 x.jh,.int .i64 x.seq,.int .i64 x.tail,.int .i64 x.gen,.slice ad nd cd,.int .i64 x.jj,.bool x.down,.bool x.ji];obtain ⟨k0,k1,k2,k3,k4,k5,k6,k7,k8,k9,k10,k11,k12⟩:=X.cells13;have zA:=X.lt;have r0:=h0.below hA;have r1:=h1.below hA;go_enter Tryz.func27,Tryz.ntmps27
 go_wp2_with fail
 generalize w.alloc (.cells #[.int .i64 x.id,.int .i64 x.n,.int .i64 x.s,.slice am nm cm,.int .i64 x.lost,.int .i64 x.jh,.int .i64 x.seq,.int .i64 x.tail,.int .i64 x.gen,.slice ad nd cd,.int .i64 x.jj,.bool x.down,.bool x.ji] 35)=W at hA X zA r0 r1 k0 k1 k2 k3 k4 k5 k6 k7 k8 k9 k10 k11 k12 ⊢;refine (cZ _ _ _).mono ?_
 rintro e w1 ⟨rfl,b1⟩;have X1:=X.below b1 X.lt;have B1:=Below.andThen hA b1;have q1:=r0.below b1;have t1:=r1.below b1;clear k0 k1 k2 k3 k4 k5 k6 k7 k8 k9 k10 k11 k12 b1 hA X r0 r1;obtain ⟨k0,k1,k2,k3,k4,k5,k6,k7,k8,k9,k10,k11,k12⟩:=X1.cells13;cases hg:bo x.n x.s
 . skip
   have HF:Hid (aS x ms ds=false):=by unfold Hid aS;simp [hg]
   go_wp2
   go_ret
   exact ⟨ac HF.out.symm,B1⟩
 obtain ⟨g1,g2,g3,g4⟩:=ap.1 hg;have hws:IntKind.i64.wrap (x.n-1)=x.n-1:=IntWalk.i64_in _ (by omega);go_wp2_with fail
 refine (al _ _ _ _).mono ?_
 rintro e wq ⟨rfl,hq⟩;obtain rfl:=hq.symm;cases hid:inB x.id 1 60000
 . skip
   have HF:Hid (aS x ms ds=false):=by unfold Hid aS;simp [hid]
   go_wp2
   go_ret
   exact ⟨ac HF.out.symm,B1⟩
 skip
 go_wp2_with fail
 refine (gx _ E F x _ _ _ _ _ _ ms q1 hwm hg).mono ?_
 rintro e w2 ⟨rfl,b2⟩;have X2:=X1.below b2 X1.lt;have B2:=Below.andThen B1 b2;have q2:=q1.below b2;have t2:=t1.below b2;clear k0 k1 k2 k3 k4 k5 k6 k7 k8 k9 k10 k11 k12 b2 B1 X1 q1 t1;obtain ⟨k0,k1,k2,k3,k4,k5,k6,k7,k8,k9,k10,k11,k12⟩:=X2.cells13;cases hms:bB x ms
 . skip
   have HF:Hid (aS x ms ds=false):=by unfold Hid aS;simp [hms]
   go_wp2
   go_ret
   exact ⟨ac HF.out.symm,B2⟩
 skip
 go_wp2_with fail
 refine (fN _ G x _ _ _ _ _ _ ds t2 hwd hg).mono ?_
 rintro e w3 ⟨rfl,b3⟩;have X3:=X2.below b3 X2.lt;have B3:=Below.andThen B2 b3;have q3:=q2.below b3;have t3:=t2.below b3;clear k0 k1 k2 k3 k4 k5 k6 k7 k8 k9 k10 k11 k12 b3 B2 X2 q2 t2;obtain ⟨k0,k1,k2,k3,k4,k5,k6,k7,k8,k9,k10,k11,k12⟩:=X3.cells13;cases hds:dd x ds
 . skip
   have HF:Hid (aS x ms ds=false):=by unfold Hid aS;simp [hds]
   go_wp2
   go_ret
   exact ⟨ac HF.out.symm,B3⟩
 skip
 go_wp2_with fail
 refine (al _ _ _ _).mono ?_
 rintro e wq ⟨rfl,hq⟩;obtain rfl:=hq.symm;cases hlo:inB x.lost (-1) (x.n-1)
 . skip
   have HF:Hid (aS x ms ds=false):=by unfold Hid aS;simp [cM,hlo]
   go_wp2
   go_ret
   exact ⟨ac HF.out.symm,B3⟩
 skip
 go_wp2_with fail
 refine (al _ _ _ _).mono ?_
 rintro e wq ⟨rfl,hq⟩;obtain rfl:=hq.symm;cases hbu:inB x.jh 0 x.s
 . skip
   have HF:Hid (aS x ms ds=false):=by unfold Hid aS;simp [cM,hbu]
   go_wp2
   go_ret
   exact ⟨ac HF.out.symm,B3⟩
 skip
 have hlb:(x.lost=-1/\¬x.jh=0)∨(x.lost=-1/\x.jh=0)∨¬x.lost=-1:=by omega
 have HLB:Hid (cM x=(!decide (x.lost=-1)||decide (x.jh=0))):=by unfold Hid cM;rw [hlo,hbu];simp
 rcases hlb with ⟨l1,l2⟩|⟨l1,l2⟩|l1
 . have e1:(x.lost==-1)=true:=by simpa using l1
   have e2:(x.jh !=0)=true:=by simpa using l2
   have e3:(x.jh==0)=false:=by simpa using l2
   have hL:cM x=false:=by rw [HLB.out];simp [l1,l2]
   rw [l1] at k4;have HF:Hid (aS x ms ds=false):=by unfold Hid aS;simp [hL]
   clear hL l1 l2;go_wp2
   go_ret
   exact ⟨ac HF.out.symm,B3⟩
 . have e1:(x.lost==-1)=true:=by simpa using l1
   have e2:(x.jh !=0)=false:=by simpa using l2
   have e3:(x.jh==0)=true:=by simpa using l2
   have HLT:Hid (cM x=true):=by unfold Hid;rw [HLB.out];simp [l2]
   rw [l1] at k4;rw [l2] at k5;clear l1 l2;have HT:Hid (aS x ms ds=cN x):=by unfold Hid aS;rw [hg,hid,hms,hds,HLT.out];rfl
   go_wp2_with fail
   refine (al _ _ _ _).mono ?_
   rintro e wq ⟨rfl,hq⟩;obtain rfl:=hq.symm;cases ht:inB x.tail 0 60000
   . have HF:Hid (aS x ms ds=false):=by unfold Hid;rw [HT.out];unfold cN;simp [ht]
     go_wp2
     go_ret
     exact ⟨ac HF.out.symm,B3⟩
   skip
   have ht2:0<=x.tail/\x.tail<=60000:=by unfold inB at ht;simpa using ht
   have hw4:IntKind.i64.wrap (x.tail+4)=x.tail+4:=IntWalk.i64_in _ (by omega);go_wp2_with fail
   refine (al _ _ _ _).mono ?_
   rintro e wq ⟨rfl,hq⟩;obtain rfl:=hq.symm;cases hs:inB x.seq x.tail 60000
   . have HF:Hid (aS x ms ds=false):=by unfold Hid;rw [HT.out];unfold cN;simp [hs]
     go_wp2
     go_ret
     exact ⟨ac HF.out.symm,B3⟩
   skip
   by_cases hle:x.seq<=x.tail+4
   . skip
     go_wp2_with fail
     refine (al _ _ _ _).mono ?_
     rintro e wq ⟨rfl,hq⟩;obtain rfl:=hq.symm;cases hge:inB x.gen 0 60000
     . have HF:Hid (aS x ms ds=false):=by unfold Hid;rw [HT.out];unfold cN;simp [hge]
       go_wp2
       go_ret
       exact ⟨ac HF.out.symm,B3⟩
     skip
     have HF:Hid (aS x ms ds=inB x.jj (-1) 1000):=by unfold Hid;rw [HT.out];unfold cN;simp [ht,hs,hle,hge]
     go_wp2_with fail
     refine (al _ _ _ _).mono ?_
     rintro e wq ⟨rfl,hq⟩;obtain rfl:=hq.symm;cases hfu:inB x.jj (-1) 1000
     . go_wp2
       go_ret
       exact ⟨ac (by rw [HF.out,hfu]),B3⟩
     go_wp2
     go_ret
     exact ⟨ac (by rw [HF.out,hfu]),B3⟩
   have HF:Hid (aS x ms ds=false):=by unfold Hid;rw [HT.out];unfold cN;simp;omega
   have hgt:x.tail+4<x.seq:=by omega
   go_wp2
   go_ret
   exact ⟨ac HF.out.symm,B3⟩
 have e1:(x.lost==-1)=false:=by simpa using l1
 have HLT:Hid (cM x=true):=by unfold Hid;rw [HLB.out];simp [l1]
 clear l1;have HT:Hid (aS x ms ds=cN x):=by unfold Hid aS;rw [hg,hid,hms,hds,HLT.out];rfl
 go_wp2_with fail
 refine (al _ _ _ _).mono ?_
 rintro e wq ⟨rfl,hq⟩;obtain rfl:=hq.symm;cases ht:inB x.tail 0 60000
 . have HF:Hid (aS x ms ds=false):=by unfold Hid;rw [HT.out];unfold cN;simp [ht]
   go_wp2
   go_ret
   exact ⟨ac HF.out.symm,B3⟩
 skip
 have ht2:0<=x.tail/\x.tail<=60000:=by unfold inB at ht;simpa using ht
 have hw4:IntKind.i64.wrap (x.tail+4)=x.tail+4:=IntWalk.i64_in _ (by omega);go_wp2_with fail
 refine (al _ _ _ _).mono ?_
 rintro e wq ⟨rfl,hq⟩;obtain rfl:=hq.symm;cases hs:inB x.seq x.tail 60000
 . have HF:Hid (aS x ms ds=false):=by unfold Hid;rw [HT.out];unfold cN;simp [hs]
   go_wp2
   go_ret
   exact ⟨ac HF.out.symm,B3⟩
 skip
 by_cases hle:x.seq<=x.tail+4
 . skip
   go_wp2_with fail
   refine (al _ _ _ _).mono ?_
   rintro e wq ⟨rfl,hq⟩;obtain rfl:=hq.symm;cases hge:inB x.gen 0 60000
   . have HF:Hid (aS x ms ds=false):=by unfold Hid;rw [HT.out];unfold cN;simp [hge]
     go_wp2
     go_ret
     exact ⟨ac HF.out.symm,B3⟩
   skip
   have HF:Hid (aS x ms ds=inB x.jj (-1) 1000):=by unfold Hid;rw [HT.out];unfold cN;simp [ht,hs,hle,hge]
   go_wp2_with fail
   refine (al _ _ _ _).mono ?_
   rintro e wq ⟨rfl,hq⟩;obtain rfl:=hq.symm;cases hfu:inB x.jj (-1) 1000
   . go_wp2
     go_ret
     exact ⟨ac (by rw [HF.out,hfu]),B3⟩
   go_wp2
   go_ret
   exact ⟨ac (by rw [HF.out,hfu]),B3⟩
 have HF:Hid (aS x ms ds=false):=by unfold Hid;rw [HT.out];unfold cN;simp;omega
 have hgt:x.tail+4<x.seq:=by omega
 go_wp2
 go_ret
 exact ⟨ac HF.out.symm,B3⟩
theorem eA (w:World) (E F:TypeId) (x:aw) (am ad:Option Addr) (nm cm nd cd:Nat) (ms:List ax) (m s:Int) (h0:(bf E F).Rd w [.slice am nm cm] ms) (hw:aE ms<=2097152):
 Calls Tryz.prog 87 #[.agg #[.int .i64 x.id,.int .i64 x.n,.int .i64 x.s,.slice am nm cm,.int .i64 x.lost,.int .i64 x.jh,.int .i64 x.seq,.int .i64 x.tail,.int .i64 x.gen,.slice ad nd cd,.int .i64 x.jj,.bool x.down,.bool x.ji],.int .i64 m,.int .i64 s] w fun e w'=>e=.returned (.bool (cz x ms m s))/\Below w.heap.size w w':=by
 obtain ⟨hl,hc,hm⟩:=ag h0;have hnm:nm<=2097152:=by unfold aE at hw;omega
 have hA:=af w (.cells #[.int .i64 x.id,.int .i64 x.n,.int .i64 x.s,.slice am nm cm,.int .i64 x.lost,.int .i64 x.jh,.int .i64 x.seq,.int .i64 x.tail,.int .i64 x.gen,.slice ad nd cd,.int .i64 x.jj,.bool x.down,.bool x.ji] 35);have X:=Box.new w 35 #[.int .i64 x.id,.int .i64 x.n,.int .i64 x.s,.slice am nm cm,.int .i64 x.lost,.int .i64 x.jh,.int .i64 x.seq,.int .i64 x.tail,.int .i64 x.gen,.slice ad nd cd,.int .i64 x.jj,.bool x.down,.bool x.ji];obtain ⟨k0,k1,k2,k3,k4,k5,k6,k7,k8,k9,k10,k11,k12⟩:=X.cells13;have h1:=h0.below hA;have hwn:IntKind.i64.wrap ((nm:Int)-1)=(nm:Int)-1:=IntWalk.i64_in _ (by omega);go_enter Tryz.func87,Tryz.ntmps87
 go_wp2_with fail
 generalize w.alloc (.cells #[.int .i64 x.id,.int .i64 x.n,.int .i64 x.s,.slice am nm cm,.int .i64 x.lost,.int .i64 x.jh,.int .i64 x.seq,.int .i64 x.tail,.int .i64 x.gen,.slice ad nd cd,.int .i64 x.jj,.bool x.down,.bool x.ji] 35)=W at hA X h1 k0 k1 k2 k3 k4 k5 k6 k7 k8 k9 k10 k11 k12 ⊢;refine (al _ _ _ _).mono ?_
 rintro e wq ⟨rfl,hq⟩;obtain rfl:=hq.symm;cases hi:inB m 0 ((nm:Int)-1)
 . have HF:Hid (cz x ms m s=false):=by unfold Hid cz;rw [hl,hi];rfl
   go_wp2
   go_ret
   exact ⟨ac HF.out.symm,hA⟩
 have hi2:0<=m/\m<=(nm:Int)-1:=by unfold inB at hi;simpa using hi
 obtain ⟨j,rfl⟩:=Int.eq_ofNat_of_zero_le hi2.1;rcases bS rfl h1 with h0'|⟨b,off,rfl,hbl,hcs⟩
 . omega
 have hdj:ms[j]?=some (ms[j]'(by omega)):=List.getElem?_eq_getElem (by omega);generalize ms[j]'(by omega)=d at hdj;obtain ⟨v0,v1,v2,v3,hv0,hv1,hv2,hv3,hrv⟩:=hcs j d hdj;obtain ⟨a0,c0,a1,c1,a3,c3,ss,cs,f,bs,rfl,rfl,rfl,rfl,rfl,r0,r1,r3⟩:=dl hrv;have i1:(0:Int)<=(j:Int):=by omega
 have i2:(j:Int)<(nm:Int):=by omega
 have HD:Hid (cz x ms (j:Int) s=(!f&&(!decide ((j:Int)=x.lost)||decide (s<x.jh)))):=by
  unfold Hid cz;rw [hl,hi,Int.toNat_natCast,List.getD_eq_getElem?_getD,hdj];rfl
 clear hcs hv0 hv1 hv3 hrv r0 r1 r3 hdj;cases f
 . by_cases hj:(j:Int)=x.lost
   . have e1:((j:Int)==x.lost)=true:=by simpa using hj
     have e2:((j:Int) !=x.lost)=false:=by simpa using hj
     have HF:Hid (cz x ms (j:Int) s=decide (s<x.jh)):=by unfold Hid;rw [HD.out];simp [hj]
     clear hj;go_wp2
     go_ret
     exact ⟨ac HF.out.symm,hA⟩
   have e1:((j:Int)==x.lost)=false:=by simpa using hj
   have e2:((j:Int) !=x.lost)=true:=by simpa using hj
   have HF:Hid (cz x ms (j:Int) s=true):=by unfold Hid;rw [HD.out];simp [hj]
   clear hj;go_wp2
   go_ret
   exact ⟨ac HF.out.symm,hA⟩
 have HF:Hid (cz x ms (j:Int) s=false):=by unfold Hid;rw [HD.out];rfl
 go_wp2
 go_ret
 exact ⟨ac HF.out.symm,hA⟩
abbrev EntD:=Int×List Int
def iw (fps:List (List Nat)) (fe:List Nat) (j:Nat) (dn:Bool) (fT:List Nat):Prop:=∀b∈fT,(dn=true/\b∈fe)∨∃i f,i<j/\fps[i]?=some f/\b∈f
theorem iw.next {fps:List (List Nat)} {fe:List Nat} {j:Nat} {dn:Bool} {fT:List Nat} (h:iw fps fe j dn fT):iw fps fe (j+1) dn fT:=fun b hb=>by
 rcases h b hb with h1|⟨i,f,h1,h2⟩
 . exact .inl h1
 exact .inr ⟨i,f,by omega,h2⟩
theorem iw.entry {fps:List (List Nat)} {fe:List Nat} {j:Nat} {fT:List Nat} (h:iw fps fe j false fT):iw fps fe j true (fT++fe):=fun b hb=>by
 rcases List.mem_append.1 hb with hb|hb
 . rcases h b hb with ⟨h1,_⟩|h1
   . cases h1
   exact .inr h1
 exact .inl ⟨rfl,hb⟩
end Go.Proofs.YtfimpohbpccjaaaGreat
