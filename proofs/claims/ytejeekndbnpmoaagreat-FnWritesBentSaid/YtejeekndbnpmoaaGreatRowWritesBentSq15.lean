/-
 A region in which two operations may come up next: a plain lemma. No condition.
-/
import Derived.Test.YtejeekndbnpmoaaGreatRowWritesBentSq14
import Derived.Test.YtejeekndbnpmoaaGreatRowWritesBentSq11
import Derived.Test.YtejeekndbnpmoaaGreatRowWritesBentSq2
import Derived.Test.YtejeekndbnpmoaaGreatRowWritesBentSq12
import Derived.Test.YtejeekndbnpmoaaGreatRowWritesBentSq6
import Derived.Test.YtejeekndbnpmoaaGreatRowWritesBentSq3
import Derived.Test.YtejeekndbnpmoaaGreatRowWritesBentSq9

set_option maxRecDepth 100000
set_option maxHeartbeats 8000000
set_option linter.unusedSimpArgs false

namespace Go.Proofs.YtejeekndbnpmoaaGreat
open Go.RowKit

def eG (x:al) (ms:List ai) (s:Int) (j:Nat):List Int:=(List.range j).map fun (i:Nat)=>gj x ms (i:Int) s
def dg (x:al) (ms:List ai) (s:Int) (j:Nat):List Nat:=(List.range j).filter fun (i:Nat)=>!iM x ms (i:Int) s
def lf:List Nat->Int
 | []=>-1
 | p :: _=>(p:Int)
def db (x:al) (ms:List ai) (s:Int):Bool:=decide ((dg x ms s x.n.toNat).length<=1)
def dv (x:al) (ms:List ai) (s:Int):List Int:=
 match dg x ms s x.n.toNat with
 | []=>eG x ms s x.n.toNat
 | [p]=>(eG x ms s x.n.toNat).set p (ge (eG x ms s x.n.toNat) (p:Int) x.n.toNat)
 | _=>[]
theorem rn (x:al) (ms:List ai) (s:Int) (j:Nat):eG x ms s (j+1)=eG x ms s j++[gj x ms (j:Int) s]:=by unfold eG;rw [List.range_succ,List.map_append];rfl
theorem jl (x:al) (ms:List ai) (s:Int) (j:Nat):(eG x ms s j).length=j:=by unfold eG;simp
theorem oA {x:al} {ms:List ai} {s:Int} {j:Nat} (h:iM x ms (j:Int) s=true):dg x ms s (j+1)=dg x ms s j:=by unfold dg;rw [List.range_succ,List.filter_append];simp [h]
theorem qh {x:al} {ms:List ai} {s:Int} {j:Nat} (h:iM x ms (j:Int) s=false):dg x ms s (j+1)=dg x ms s j++[j]:=by unfold dg;rw [List.range_succ,List.filter_append];simp [h]
theorem rt (x:al) (ms:List ai) (s:Int) (j k:Nat) (h:j<=k):(dg x ms s j).length<=(dg x ms s k).length:=by
 induction k with
 | zero=>
  obtain rfl:j=0:=by omega
  exact Nat.le_refl _
 | succ k ih=>
  rcases Nat.lt_or_ge k j with h1|h1
  . obtain rfl:j=k+1:=by omega
    exact Nat.le_refl _
  refine Nat.le_trans (ih h1) ?_
  cases hh:iM x ms (k:Int) s with
  | true=>rw [oA hh];exact Nat.le_refl _
  | false=>rw [qh hh];simp
theorem uA {x:al} {ms:List ai} {s:Int} {j p:Nat} (h:p∈dg x ms s j):p<j:=by
 unfold dg at h;exact List.mem_range.1 (List.mem_filter.1 h).1
theorem td {x:al} {ms:List ai} {s:Int} {j:Nat} (h:2<=(dg x ms s j).length) (hj:j<=x.n.toNat):db x ms s=false/\dv x ms s=[]:=by
 have h2:=Nat.le_trans h (rt x ms s j x.n.toNat hj);refine ⟨by unfold db;simp;omega,?_⟩
 unfold dv;match hm:dg x ms s x.n.toNat,h2 with
 | _ :: _ :: _,_=>rfl
theorem mM {x:al} {ms:List ai} {s:Int} (h:dg x ms s x.n.toNat=[]):db x ms s=true/\dv x ms s=eG x ms s x.n.toNat:=by
 refine ⟨by unfold db;rw [h];rfl,?_⟩
 unfold dv;rw [h]
theorem oB {x:al} {ms:List ai} {s:Int} {p:Nat} (h:dg x ms s x.n.toNat=[p]):db x ms s=true/\dv x ms s=(eG x ms s x.n.toNat).set p (ge (eG x ms s x.n.toNat) (p:Int) x.n.toNat):=by
 refine ⟨by unfold db;rw [h];rfl,?_⟩
 unfold dv;rw [h]
theorem jC {k:IntKind} {E:TypeId} {w:World} {lo:Nat} {v:Value} {zs:List Int} (h:bj k E w lo v zs) (hn:0<zs.length):∃g cap,v=.slice (some ⟨g,0,none⟩) zs.length cap/\lo<=g/\g<w.heap.size/\zs.length<=cap/\cap<=maxLen:=by
 rcases h.2 with ⟨_,h0⟩|⟨g,cap,cur,hv,hb,hg,hnc,hcm,_⟩
 . omega
 exact ⟨g,cap,hv,hb,(Array.getElem?_eq_some_iff.1 hg).1,hnc,hcm⟩
theorem jD {l:List Nat} (h:l.length<=1):l=[]∨∃p,l=[p]:=by
 match l,h with
 | [],_=>exact .inl rfl
 | [p],_=>exact .inr ⟨p,rfl⟩
theorem lg (w:World) (E F:TypeId) (x:al) (am ad:Option Addr) (nm cm nd cd:Nat) (ms:List ai) (s:Int) (h0:(bt E F).Rd w [.slice am nm cm] ms) (hw:aV ms<=2097152) (hg:bF x.n x.s=true):
 Calls Tryz.prog 206 #[.agg #[.int .i64 x.id,.int .i64 x.n,.int .i64 x.s,.slice am nm cm,.int .i64 x.lost,.int .i64 x.vG,.int .i64 x.seq,.int .i64 x.tail,.int .i64 x.gen,.slice ad nd cd,.int .i64 x.vI,.bool x.down,.bool x.vH],.int .i64 s] w fun e w'=>∃a' l' c',e=.returned (.tuple #[.slice a' l' c',.bool (db x ms s)])/\aA.Own w' w.heap.size w'.heap.size [.slice a' l' c'] (dv x ms s)/\Below w.heap.size w w':=by
 obtain ⟨g1,g2,g3,g4⟩:=aB.1 hg;obtain ⟨n,hn⟩:∃n:Nat,x.n=(n:Int):=⟨x.n.toNat,by omega⟩;have hnt:x.n.toNat=n:=by omega
 have HN:=aa hn;have HNT:=aa hnt;have hn5:n<=5:=by omega
 clear hn hnt;obtain ⟨i0,hi,hz0,hz1,hz2⟩:=info_parts Tryz.info3;have hA:=ae w (.cells #[.int .i64 x.id,.int .i64 x.n,.int .i64 x.s,.slice am nm cm,.int .i64 x.lost,.int .i64 x.vG,.int .i64 x.seq,.int .i64 x.tail,.int .i64 x.gen,.slice ad nd cd,.int .i64 x.vI,.bool x.down,.bool x.vH] 29);have X:=Box.new w 29 #[.int .i64 x.id,.int .i64 x.n,.int .i64 x.s,.slice am nm cm,.int .i64 x.lost,.int .i64 x.vG,.int .i64 x.seq,.int .i64 x.tail,.int .i64 x.gen,.slice ad nd cd,.int .i64 x.vI,.bool x.down,.bool x.vH];have zA:=X.lt;have h1:=h0.below hA;go_enter Tryz.func206,Tryz.ntmps206
 go_wp2
 have zW:(w.alloc (.cells #[.int .i64 x.id,.int .i64 x.n,.int .i64 x.s,.slice am nm cm,.int .i64 x.lost,.int .i64 x.vG,.int .i64 x.seq,.int .i64 x.tail,.int .i64 x.gen,.slice ad nd cd,.int .i64 x.vI,.bool x.down,.bool x.vH] 29)).heap.size=w.heap.size+1:=by simp
 have ZW:=aa zW;clear zW;generalize w.alloc (.cells #[.int .i64 x.id,.int .i64 x.n,.int .i64 x.s,.slice am nm cm,.int .i64 x.lost,.int .i64 x.vG,.int .i64 x.seq,.int .i64 x.tail,.int .i64 x.gen,.slice ad nd cd,.int .i64 x.vI,.bool x.down,.bool x.vH] 29)=W at hA X zA h1 ZW ⊢;have hO:bj .i64 3 (W.alloc (.cells #[] 3)) W.heap.size (.slice (some ⟨W.heap.size,0,none⟩) 0 0) []:=bj.lit .i64 3 W [] 0 #[] rfl rfl (by unfold maxLen;omega);go_loopw [6,7,8] (fun v lo i wr=>∃j:Nat,j<=n/\i=.int .i64 j/\lo=.int .i64 (lf (dg x ms s j))/\(dg x ms s j).length<=1/\bj .i64 3 wr W.heap.size v (eG x ms s j)/\Below W.heap.size W wr) (fun _ _ i _=>n-(intOf i).toNat)
 case atStart=>exact ⟨0,Nat.zero_le _,rfl,rfl,Nat.zero_le _,by first|exact hO|(rw [ZW.out] at hO;rw [ZW.out];exact hO),(Below.refl _ _).alloc (Nat.le_refl _) _⟩
 obtain ⟨j,hj,rfl,rfl,hm1,ho,hb⟩:=hrel;have Xr:=X.below hb zA;obtain ⟨k0,k1,k2,k3,k4,k5,k6,k7,k8,k9,k10,k11,k12⟩:=Xr.cells13;have zs:=hb.size;by_cases hjn:j<n
 . have hlt:(j:Int)<x.n:=by have:=HN.out;omega
   go_wp2_with fail
   refine (rk _ E F x _ _ _ _ _ _ ms (j:Int) s (h1.below hb) hw).mono ?_
   rintro e w1 ⟨rfl,b1⟩;have X1:=Xr.below b1 Xr.lt;have B1:=hb.trans (b1.mono hb.size);have o1:=ho.below b1 (Nat.le_refl _);have z1:=b1.size;clear k0 k1 k2 k3 k4 k5 k6 k7 k8 k9 k10 k11 k12 Xr b1 ho hb;have hs1:=rn x ms s j;have hlen:=jl x ms s j;cases hh:iM x ms (j:Int) s
   . have hmn:=qh hh
     rcases jD hm1 with h00|⟨p,hp⟩
     . have hl0:lf (dg x ms s j)=-1:=by rw [h00];rfl
       have hl1:lf (dg x ms s (j+1))=(j:Int):=by rw [hmn,h00];rfl
       have hc1:(dg x ms s (j+1)).length<=1:=by rw [hmn,h00];exact Nat.le_refl _
       have HL1:=aa hl1;have HC1:=aa hc1;rw [hl0];clear hmn h00 hl0 hl1 hc1;generalize gj x ms (j:Int) s=y at hs1 ⊢;have HS:=aa hs1;clear hs1;go_wp2_with (at_builtin;refine cZ .i64 (by rfl) _ _ 31 (by rfl) W.heap.size 3 i0 _ 8 Tryz.underlying31 hi hz0 hz1 hz2 rfl _ (eG x ms s j) (by rfl) (o1.alloc _) ⟨w1.heap.size,0,none⟩ 1 1 [y] (by rfl) rfl (aK.new _ _ _ _ _ rfl) ?h1 ?h2 ?h3 ?_)
       case h1=>unfold maxLen;omega
       case h2=>omega
       case h3=>simp;omega
       intro v' w2 o2 b2;have B2:=aa ((B1.alloc B1.size (.cells #[.int .i64 y] 3)).trans b2);rw [←HS.out] at o2;have O2:=aa o2;clear b2 o2 o1 B1;go_wp2
       go_roundw
       case rel=>exact ⟨j+1,by omega,by go_num,by rw [HL1.out],HC1.out,O2.out,B2.out⟩
       case measure=>simp [intOf];omega
     have hl0:lf (dg x ms s j)=(p:Int):=by rw [hp];rfl
     obtain ⟨t1,t2⟩:=td (x:=x) (ms:=ms) (s:=s) (j:=j+1) (by rw [hmn,hp];exact Nat.le_refl _) (by have:=HNT.out;omega);have HT1:=aa t1;have HT2:=aa t2;rw [hl0];clear hmn hp hl0 t1 t2 hs1;have hp0:(0:Int)<=(p:Int):=by omega
     have FO:=aa ((aR (bj.lit .i64 3 w1 [] 0 #[] rfl rfl (by unfold maxLen;omega))).widen (lo':=w.heap.size) (by omega) (Nat.le_refl _));have FB:=aa (hA.trans ((B1.alloc B1.size (.cells #[] 3)).mono hA.size));go_wp2
     refine bodyPost_ret (v:=.tuple #[.slice (some ⟨w1.heap.size,0,none⟩) 0 0,.bool false]) (by simp [results,Tryz.results206,go_sem]) rfl ?_
     exact ⟨_,_,_,by rw [HT1.out],by rw [HT2.out];exact FO.out,FB.out⟩
   have hmy:=oA hh;have HL1:Hid (lf (dg x ms s (j+1))=lf (dg x ms s j)):=by unfold Hid;rw [hmy]
   have HC1:Hid ((dg x ms s (j+1)).length<=1):=by unfold Hid;rw [hmy];exact hm1
   clear hmy;generalize gj x ms (j:Int) s=y at hs1 ⊢;have HS:=aa hs1;clear hs1;go_wp2_with (at_builtin;refine cZ .i64 (by rfl) _ _ 31 (by rfl) W.heap.size 3 i0 _ 8 Tryz.underlying31 hi hz0 hz1 hz2 rfl _ (eG x ms s j) (by rfl) (o1.alloc _) ⟨w1.heap.size,0,none⟩ 1 1 [y] (by rfl) rfl (aK.new _ _ _ _ _ rfl) ?h1 ?h2 ?h3 ?_)
   case h1=>unfold maxLen;omega
   case h2=>omega
   case h3=>simp;omega
   intro v' w2 o2 b2;have B2:=aa ((B1.alloc B1.size (.cells #[.int .i64 y] 3)).trans b2);rw [←HS.out] at o2;have O2:=aa o2;clear b2 o2 o1 B1;go_wp2
   go_roundw
   case rel=>exact ⟨j+1,by omega,by go_num,by rw [HL1.out],HC1.out,O2.out,B2.out⟩
   case measure=>simp [intOf];omega
 have ej:j=n:=by omega
 subst ej;have hge:x.n<=(j:Int):=by have:=HN.out;omega
 have hlen:=jl x ms s j;rcases jD hm1 with h00|⟨p,hp⟩
 . have hl0:lf (dg x ms s j)=-1:=by rw [h00];rfl
   obtain ⟨t1,t2⟩:=mM (x:=x) (ms:=ms) (s:=s) (by rw [HNT.out];exact h00);rw [HNT.out] at t2;have HT1:=aa t1;have HT2:=aa t2;rw [hl0];clear h00 hl0 t1 t2;obtain ⟨go,co,hv,hgl,hgh,hlc,hcm⟩:=jC ho (by have:=HN.out;omega);rw [hlen] at hv hlc;subst hv;have FO:=aa ((aR ho).widen (lo':=w.heap.size) (by omega) (Nat.le_refl _));have FB:=aa (hA.trans (hb.mono hA.size));clear ho hb Xr hlen hm1 hcm hlc hj hjn hgh;go_wp2
   refine bodyPost_ret (v:=.tuple #[.slice (some ⟨go,0,none⟩) j co,.bool true]) (by simp [results,Tryz.results206,go_sem]) rfl ?_
   exact ⟨_,_,_,by rw [HT1.out],by rw [HT2.out];exact FO.out,FB.out⟩
 have hl0:lf (dg x ms s j)=(p:Int):=by rw [hp];rfl
 have hpj:p<j:=uA (x:=x) (ms:=ms) (s:=s) (by rw [hp];simp);obtain ⟨t1,t2⟩:=oB (x:=x) (ms:=ms) (s:=s) (p:=p) (by rw [HNT.out];exact hp);rw [HNT.out] at t2;have HT1:=aa t1;have HT2:=aa t2;rw [hl0];clear hp hl0 t1 t2;have hp0:(0:Int)<=(p:Int):=by omega
 have hp1:(p:Int)<(j:Int):=by omega
 obtain ⟨go,co,hv,hgl,hgh,hlc,hcm⟩:=jC ho (by omega);rw [hlen] at hv hlc;subst hv;go_wp2_with fail
 refine (jp _ _ _ _ (eG x ms s j) (p:Int) hlen ho.reads (by omega)).mono ?_
 rintro e w1 ⟨rfl,hs1⟩;have O1:=ho.own.same hs1;have B1:=hb.trans (hs1.below _);have z1:=hs1.size;obtain ⟨c1,f1,O2,t2⟩:=O1.store p hpj (ge (eG x ms s j) (p:Int) j);have FO:=aa ((aR O2.1).widen (lo':=w.heap.size) (by omega) (Nat.le_refl _));have FB:=aa (hA.trans ((B1.trans (t2.below (B:=W.heap.size) (Nat.le_refl _) B1.size)).mono hA.size));generalize (eG x ms s j).getD p 0=y at c1;generalize ge (eG x ms s j) (p:Int) j=q at FO FB HT2 ⊢;clear O1 O2 t2 ho hb hs1 Xr;go_wp2
 refine bodyPost_ret (v:=.tuple #[.slice (some ⟨go,0,none⟩) j co,.bool true]) (by simp [results,Tryz.results206,go_sem]) rfl ?_
 exact ⟨_,_,_,by rw [HT1.out],by rw [HT2.out];exact FO.out,FB.out⟩
def iW (x:al) (s:Int) (l:List Int) (j:Nat):List Int:=(List.range j).map fun (i:Nat)=>l.getD (fa x.n x.s s (i:Int)).toNat 0
theorem ru (x:al) (s:Int) (l:List Int) (j:Nat):iW x s l (j+1)=iW x s l j++[l.getD (fa x.n x.s s (j:Int)).toNat 0]:=by unfold iW;rw [List.range_succ,List.map_append];rfl
theorem kE (x:al) (s:Int) (l:List Int) (j:Nat):(iW x s l j).length=j:=by unfold iW;simp
def ib (x:al) (ms:List ai) (s:Int):List Int:=if db x ms s=true then iW x s (dv x ms s) (x.n.toNat-1) else []
theorem mN {x:al} {ms:List ai} {s:Int} (h:db x ms s=true):(dv x ms s).length=x.n.toNat:=by
 unfold db at h;rcases jD (of_decide_eq_true h) with h0|⟨p,hp⟩
 . rw [(mM h0).2,jl]
 rw [(oB hp).2,List.length_set,jl]
theorem aK.ahead6 {k:IntKind} {w:World} {a:Option Addr} {zs:List Int} (h:aK k w a zs) (hn:0<zs.length):∀q,a=some q->q.block<w.heap.size:=by
 intro q hq;rcases h.cases with h1|⟨b,off,rfl,hlt,_⟩
 . omega
 simp at hq
 subst hq;exact hlt
theorem vA {n s t i:Int} (hg:bF n s=true) (ht:inB t 0 (s-1)=true) (h0:0<=i) (h1:i<n-1):0<=fa n s t i/\fa n s t i<n:=by
 obtain ⟨g1,g2,g3,g4⟩:=aB.1 hg;have hs:fC n s t i=true:=by
  unfold fC bG;rw [hg,ht];unfold inB;simp
  omega
 unfold fa;rw [if_pos hs];exact ⟨Int.emod_nonneg _ (by omega),Int.emod_lt_of_pos _ (by omega)⟩
theorem ry (w:World) (E F:TypeId) (x:al) (am ad:Option Addr) (nm cm nd cd:Nat) (ms:List ai) (s:Int) (h0:(bt E F).Rd w [.slice am nm cm] ms) (hw:aV ms<=2097152) (hg:bF x.n x.s=true) (ht:inB s 0 (x.s-1)=true):
 Calls Tryz.prog 185 #[.agg #[.int .i64 x.id,.int .i64 x.n,.int .i64 x.s,.slice am nm cm,.int .i64 x.lost,.int .i64 x.vG,.int .i64 x.seq,.int .i64 x.tail,.int .i64 x.gen,.slice ad nd cd,.int .i64 x.vI,.bool x.down,.bool x.vH],.int .i64 s] w fun e w'=>∃a' l' c',e=.returned (.tuple #[.slice a' l' c',.bool (db x ms s)])/\aA.Own w' w.heap.size w'.heap.size [.slice a' l' c'] (ib x ms s)/\Below w.heap.size w w':=by
 obtain ⟨g1,g2,g3,g4⟩:=aB.1 hg;obtain ⟨n,hn⟩:∃n:Nat,x.n=(n:Int):=⟨x.n.toNat,by omega⟩;have hnt:x.n.toNat=n:=by omega
 have HN:=aa hn;have HNT:=aa hnt;have hn5:3<=n/\n<=5:=by omega
 clear hn hnt;have hwn:IntKind.i64.wrap (x.n-1)=x.n-1:=IntWalk.i64_in _ (by omega);obtain ⟨i0,hi,hz0,hz1,hz2⟩:=info_parts Tryz.info3;have hA:=ae w (.cells #[.int .i64 x.id,.int .i64 x.n,.int .i64 x.s,.slice am nm cm,.int .i64 x.lost,.int .i64 x.vG,.int .i64 x.seq,.int .i64 x.tail,.int .i64 x.gen,.slice ad nd cd,.int .i64 x.vI,.bool x.down,.bool x.vH] 29);have X:=Box.new w 29 #[.int .i64 x.id,.int .i64 x.n,.int .i64 x.s,.slice am nm cm,.int .i64 x.lost,.int .i64 x.vG,.int .i64 x.seq,.int .i64 x.tail,.int .i64 x.gen,.slice ad nd cd,.int .i64 x.vI,.bool x.down,.bool x.vH];obtain ⟨k0,k1,k2,k3,k4,k5,k6,k7,k8,k9,k10,k11,k12⟩:=X.cells13;have zA:=X.lt;have h1:=h0.below hA;go_enter Tryz.func185,Tryz.ntmps185
 go_wp2_with fail
 generalize w.alloc (.cells #[.int .i64 x.id,.int .i64 x.n,.int .i64 x.s,.slice am nm cm,.int .i64 x.lost,.int .i64 x.vG,.int .i64 x.seq,.int .i64 x.tail,.int .i64 x.gen,.slice ad nd cd,.int .i64 x.vI,.bool x.down,.bool x.vH] 29)=W at hA X zA h1 k0 k1 k2 k3 k4 k5 k6 k7 k8 k9 k10 k11 k12 ⊢;refine (lg _ E F x _ _ _ _ _ _ ms s h1 hw hg).mono ?_
 rintro e w1 ⟨aL,lL,cL,rfl,oL,b1⟩;have X1:=X.below b1 zA;have B1:=Below.andThen hA b1;clear k0 k1 k2 k3 k4 k5 k6 k7 k8 k9 k10 k11 k12 X b1 hA zA h1;have hO:bj .i64 3 (w1.alloc (.cells #[] 3)) w1.heap.size (.slice (some ⟨w1.heap.size,0,none⟩) 0 0) []:=bj.lit .i64 3 w1 [] 0 #[] rfl rfl (by unfold maxLen;omega);have b2:=ae w1 (.cells #[] 3);cases hok:db x ms s
 . have hD:ib x ms s=[]:=by unfold ib;rw [hok];rfl
   have X2:=X1.below b2 X1.lt;obtain ⟨k0,k1,k2,k3,k4,k5,k6,k7,k8,k9,k10,k11,k12⟩:=X2.cells13;have FO:=aa ((aR hO).widen (lo':=w.heap.size) B1.size (Nat.le_refl _));have FB:=aa (B1.trans (b2.mono B1.size));have HD:=aa hD;clear hD;go_wp2
   go_loopw [8,9] (fun v i wr=>v=.slice (some ⟨w1.heap.size,0,none⟩) 0 0/\i=.int .i64 0/\wr=w1.alloc (.cells #[] 3)) (fun _ i _=>0)
   case atStart=>exact ⟨rfl,rfl,rfl⟩
   obtain ⟨rfl,rfl,rfl⟩:=hrel;have h03:(0:Int)<x.n-1:=by omega
   go_wp2
   refine bodyPost_ret (v:=.tuple #[.slice (some ⟨w1.heap.size,0,none⟩) 0 0,.bool false]) (by simp [results,Tryz.results185,go_sem]) rfl ?_
   exact ⟨_,_,_,by rw [hok],by rw [HD.out];exact FO.out,FB.out⟩
 have hD:ib x ms s=iW x s (dv x ms s) (n-1):=by unfold ib;rw [hok,HNT.out];rfl
 have hwl:=mN hok;rw [HNT.out] at hwl;obtain ⟨rdL,hlL,hncL,_⟩:=aP oL.rd;generalize dv x ms s=L at hD hwl rdL hlL;have HD:=aa hD;have hlLn:lL=n:=by omega
 subst hlLn;clear hD oL;have rd2:=rdL.below b2;have X2:=X1.below b2 X1.lt;have B2:=B1.trans (b2.mono B1.size);have z2:w1.heap.size<(w1.alloc (.cells #[] 3)).heap.size:=by simp
 go_wp2
 generalize w1.alloc (.cells #[] 3)=W2 at hO b2 rd2 X2 B2 z2 ⊢;have sL:∀q,aL=some q->q.block<w1.heap.size:=rdL.ahead6 (by omega);go_loopw [8,9] (fun v i wr=>∃j:Nat,j<=lL-1/\i=.int .i64 j/\bj .i64 3 wr w1.heap.size v (iW x s L j)/\Below w1.heap.size W2 wr) (fun _ i _=>lL-1-(intOf i).toNat)
 case atStart=>exact ⟨0,Nat.zero_le _,rfl,by first|exact hO|simpa [iW] using hO,Below.refl _ _⟩
 obtain ⟨j,hj,rfl,ho,hb⟩:=hrel;have Xr:=X2.below hb X1.lt;obtain ⟨k0,k1,k2,k3,k4,k5,k6,k7,k8,k9,k10,k11,k12⟩:=Xr.cells13;have zr:=hb.size;have rdr:=rd2.old sL hb;by_cases hjn:j<lL-1
 . have hlt:(j:Int)<x.n-1:=by have:=HN.out;omega
   obtain ⟨d0,d1⟩:=vA (i:=(j:Int)) hg ht (by omega) hlt;go_wp2_with fail
   refine (lV _ _ _ _ _).mono ?_
   rintro e w3 ⟨rfl,b3⟩;have X3:=Xr.below b3 Xr.lt;have o3:=ho.below b3 (Nat.le_refl _);have B3:=hb.trans (b3.mono (by omega));have rd3:=rdr.below b3;have z3:=b3.size;clear k0 k1 k2 k3 k4 k5 k6 k7 k8 k9 k10 k11 k12 Xr b3 ho hb rdr;have hs1:=ru x s L j;have hlen:=kE x s L j;have d2:=HN.out;generalize fa x.n x.s s (j:Int)=dk at d0 d1 hs1 ⊢;obtain ⟨q,rfl⟩:=Int.eq_ofNat_of_zero_le d0;have hq:q<lL:=by omega
   rw [Int.toNat_natCast] at hs1;rcases rd3.cases with hx|⟨b,off,rfl,hbl,hcs⟩
   . omega
   have qc:=hcs q (by omega);generalize L.getD q 0=y at qc hs1;have HS:=aa hs1;have q1:(0:Int)<=(q:Int):=by omega
   have q2:(q:Int)<(lL:Int):=by omega
   clear hcs hs1 d0 d1 d2 rd3;go_wp2_with (at_builtin;refine cZ .i64 (by rfl) _ _ 31 (by rfl) w1.heap.size 3 i0 _ 8 Tryz.underlying31 hi hz0 hz1 hz2 rfl _ (iW x s L j) (by rfl) (o3.alloc _) ⟨w3.heap.size,0,none⟩ 1 1 [y] (by rfl) rfl (aK.new _ _ _ _ _ rfl) ?h1 ?h2 ?h3 ?_)
   case h1=>unfold maxLen;omega
   case h2=>omega
   case h3=>simp;omega
   intro v' w4 o4 b4;have B4:=aa ((B3.alloc (by omega) (.cells #[.int .i64 y] 3)).trans b4);rw [←HS.out] at o4;have O4:=aa o4;clear b4 o4 o3 B3;go_wp2
   go_roundw
   case rel=>exact ⟨j+1,by omega,by go_num,O4.out,B4.out⟩
   case measure=>simp [intOf];omega
 have ej:j=lL-1:=by omega
 have hge:x.n-1<=(j:Int):=by have:=HN.out;omega
 have hlen:=kE x s L j;obtain ⟨go,co,hv,hgl,hgh,hlc,hcm⟩:=jC ho (by omega);rw [hlen] at hv hlc;subst hv;have FO:=aa ((aR ho).widen (lo':=w.heap.size) B1.size (Nat.le_refl _));have FB:=aa (B2.trans (hb.mono B1.size));have HD2:Hid (ib x ms s=iW x s L j):=by unfold Hid;rw [HD.out,ej]
 clear ho hb Xr hlen hcm hlc hjn hgh rdr ej hj;go_wp2
 refine bodyPost_ret (v:=.tuple #[.slice (some ⟨go,0,none⟩) j co,.bool true]) (by simp [results,Tryz.results185,go_sem]) rfl ?_
 exact ⟨_,_,_,rfl,by rw [HD2.out];exact FO.out,FB.out⟩
def ok8 (x:al) (ms:List ai) (ds:List (Int×List Int)) (s:Int):Bool:=if at8 ds s=-1 then !x.vH&&db x ms s else true
def jq (x:al) (ms:List ai) (ds:List (Int×List Int)) (s:Int):List Int:=if at8 ds s=-1 then (if x.vH=true then [] else ib x ms s) else (ds.getD (at8 ds s).toNat (0,[])).2
theorem ph (w:World) (E F G:TypeId) (x:al) (am ad:Option Addr) (nm cm nd cd:Nat) (ms:List ai) (ds:List (Int×List Int)) (s:Int) (h0:(bt E F).Rd w [.slice am nm cm] ms) (h1:(aU G).Rd w [.slice ad nd cd] ds) (hw:aM ms ds<=2097152) (hg:bF x.n x.s=true) (ht:inB s 0 (x.s-1)=true):
 Calls Tryz.prog 112 #[.agg #[.int .i64 x.id,.int .i64 x.n,.int .i64 x.s,.slice am nm cm,.int .i64 x.lost,.int .i64 x.vG,.int .i64 x.seq,.int .i64 x.tail,.int .i64 x.gen,.slice ad nd cd,.int .i64 x.vI,.bool x.down,.bool x.vH],.int .i64 s] w fun e w'=>∃a' l' c',e=.returned (.tuple #[.slice a' l' c',.bool (ok8 x ms ds s)])/\aA.Own w' w.heap.size w'.heap.size [.slice a' l' c'] (jq x ms ds s)/\Below w.heap.size w w':=by
 obtain ⟨i0,hi,hz0,hz1,hz2⟩:=info_parts Tryz.info3;have hwm:aV ms<=2097152:=by unfold aM at hw;omega
 have hwd:bh ds<=2097152:=by unfold aM at hw;omega
 obtain ⟨hl1,_,_⟩:=af h1;have hnd:nd<=2097152:=by unfold bh at hwd;omega
 have hA:=ae w (.cells #[.int .i64 x.id,.int .i64 x.n,.int .i64 x.s,.slice am nm cm,.int .i64 x.lost,.int .i64 x.vG,.int .i64 x.seq,.int .i64 x.tail,.int .i64 x.gen,.slice ad nd cd,.int .i64 x.vI,.bool x.down,.bool x.vH] 29);have X0:=Box.new w 29 #[.int .i64 x.id,.int .i64 x.n,.int .i64 x.s,.slice am nm cm,.int .i64 x.lost,.int .i64 x.vG,.int .i64 x.seq,.int .i64 x.tail,.int .i64 x.gen,.slice ad nd cd,.int .i64 x.vI,.bool x.down,.bool x.vH];have zX:=X0.lt;have r0:=h0.below hA;have r1:=h1.below hA;obtain ⟨k0,k1,k2,k3,k4,k5,k6,k7,k8,k9,k10,k11,k12⟩:=X0.cells13;go_enter Tryz.func112,Tryz.ntmps112
 go_wp2_with fail
 generalize w.alloc (.cells #[.int .i64 x.id,.int .i64 x.n,.int .i64 x.s,.slice am nm cm,.int .i64 x.lost,.int .i64 x.vG,.int .i64 x.seq,.int .i64 x.tail,.int .i64 x.gen,.slice ad nd cd,.int .i64 x.vI,.bool x.down,.bool x.vH] 29)=W at hA X0 zX r0 r1 k0 k1 k2 k3 k4 k5 k6 k7 k8 k9 k10 k11 k12 ⊢;refine (pE _ G x _ _ _ _ _ _ ds s r1 hnd).mono ?_
 rintro e w1 ⟨rfl,b1⟩;have X1:=X0.below b1 zX;have p0:=r0.below b1;have p1:=r1.below b1;have B1:=Below.andThen hA b1;clear k0 k1 k2 k3 k4 k5 k6 k7 k8 k9 k10 k11 k12 X0 r0 r1 b1 hA zX;obtain ⟨k0,k1,k2,k3,k4,k5,k6,k7,k8,k9,k10,k11,k12⟩:=X1.cells13;rcases gL ds s with hat|⟨j,d,hat,hdj,hds⟩
 . have HK:Hid (ok8 x ms ds s=(!x.vH&&db x ms s)):=by unfold Hid ok8;rw [if_pos hat]
   have HD:Hid (jq x ms ds s=if x.vH=true then [] else ib x ms s):=by unfold Hid jq;rw [if_pos hat]
   rw [hat];clear hat;cases hbr:x.vH
   . have HK2:Hid (ok8 x ms ds s=db {x with vH:=false} ms s):=by unfold Hid;rw [HK.out,hbr];rfl
     have HD2:Hid (jq x ms ds s=ib {x with vH:=false} ms s):=by unfold Hid;rw [HD.out,hbr,if_neg (by simp)];rfl
     rw [hbr] at k12;clear hbr HK HD;go_wp2_with fail
     refine (ry _ E F {x with vH:=false} _ _ _ _ _ _ ms s p0 hwm hg ht).mono ?_
     rintro e w2 ⟨a2,l2,c2,rfl,o2,b2⟩;have HO:=aa (o2.widen (lo':=w.heap.size) (hi':=w2.heap.size) B1.size (Nat.le_refl _));have HB:=aa (Below.andThen B1 b2);clear o2 b2 B1 X1 p0 p1 k0 k1 k2 k3 k4 k5 k6 k7 k8 k9 k10 k11 k12;go_wp2
     refine bodyPost_ret (v:=.tuple #[.slice a2 l2 c2,.bool (db {x with vH:=false} ms s)]) (by simp [results,Tryz.results112,go_sem]) rfl ?_
     exact ⟨a2,l2,c2,by rw [HK2.out],by rw [HD2.out];exact HO.out,HB.out⟩
   have HK2:Hid (ok8 x ms ds s=false):=by unfold Hid;rw [HK.out,hbr];rfl
   have HD2:Hid (jq x ms ds s=[]):=by unfold Hid;rw [HD.out,hbr,if_pos rfl]
   rw [hbr] at k12;clear hbr HK HD;have HO:=aa ((aR (bj.lit .i64 3 w1 [] 0 #[] rfl rfl (by unfold maxLen;omega))).widen (lo':=w.heap.size) B1.size (Nat.le_refl _));have HB:=aa (Below.andThen B1 (ae w1 (.cells #[] 3)));clear B1 X1 p0 p1;go_wp2
   refine bodyPost_ret (v:=.tuple #[.slice (some ⟨w1.heap.size,0,none⟩) 0 0,.bool false]) (by simp [results,Tryz.results112,go_sem]) rfl ?_
   exact ⟨_,_,_,by rw [HK2.out],by rw [HD2.out];exact HO.out,HB.out⟩
 have HK:Hid (ok8 x ms ds s=true):=by unfold Hid ok8;rw [if_neg (by omega)]
 have HD:Hid (jq x ms ds s=d.2):=by unfold Hid jq;rw [if_neg (by omega),hat,Int.toNat_natCast,List.getD_eq_getElem?_getD,hdj];rfl
 have hjl:=(List.getElem?_eq_some_iff.1 hdj).1;have hil:=cE hdj;rcases cY rfl p1 with h9|⟨b,off,rfl,hbl,hcs⟩
 . omega
 obtain ⟨u0,u1,hv0,hv1,hrv⟩:=hcs j d hdj;obtain ⟨rfl,hrv'⟩:=eI hrv;obtain ⟨av,cv,rfl⟩:=az hrv';rw [hat];obtain ⟨y,ys⟩:=d;simp only at hv0 hv1 hrv' hil HD
 have hB:=ae w1 (.cells #[] 3);have hO:bj .i64 3 (w1.alloc (.cells #[] 3)) w1.heap.size (.slice (some ⟨w1.heap.size,0,none⟩) 0 0) []:=bj.lit .i64 3 w1 [] 0 #[] rfl rfl (by unfold maxLen;omega);have q0:=(hB.cell (p:=⟨b,off+j*2,none⟩) hbl).trans hv0;have q1:=(hB.cell (p:=⟨b,off+j*2+1,none⟩) hbl).trans hv1;have c9:=(hB.cell (p:=⟨w.heap.size,9,none⟩) X1.lt).trans k9;have k1:(0:Int)<=(j:Int):=by omega
 have k2:(j:Int)<(nd:Int):=by omega
 have rv:=hrv'.below hB;have BB:=aa (Below.andThen B1 hB);have HR:=aa rv;obtain ⟨hr,hl,_,_⟩:=aP rv;have zB:=B1.size;clear hat hdj hds hcs hrv hrv' B1 X1 p0 p1 hB rv;match av,hr,HR with
 | none,_,HR=>
  have hn:=lC HR.out;obtain ⟨hn0,hc0,hy0⟩:=hn;subst hc0;have hn0':ys.length=0:=hn0;rw [hn0'] at q1 hv1;have FO:=aa ((aR hO).widen (lo':=w.heap.size) zB (Nat.le_refl _));go_wp2_with (at_builtin;refine wpList_append_own_none rfl _ _ 31 rfl w1.heap.size 3 i0 1 Tryz.underlying31 hi _ 0 [] rfl hO rfl ?_)
  refine bodyPost_ret (v:=.tuple #[.slice (some ⟨w1.heap.size,0,none⟩) 0 0,.bool true]) (by simp [results,Tryz.results112,go_sem]) rfl ?_
  exact ⟨_,_,_,by rw [HK.out],by rw [HD.out,hy0];exact FO.out,BB.out⟩
 | some adr,hr,_=>
  go_wp2_with (at_builtin;refine cZ .i64 rfl _ _ 31 rfl w1.heap.size 3 i0 (.int .i64 0) 8 Tryz.underlying31 hi hz0 hz1 hz2 rfl _ [] rfl hO adr ys.length cv ys rfl rfl hr (by unfold maxLen;simp;omega) (by simp;omega) (by simp) ?_;intro v' w2 ho1 hb1;obtain ⟨a1,c1,hv1',_⟩:=ho1.shape;rw [List.nil_append] at hv1' ho1;subst hv1')
  have FO:=aa ((aR ho1).widen (lo':=w.heap.size) zB (Nat.le_refl _));have FB:=aa (BB.out.trans (hb1.mono zB));refine bodyPost_ret (v:=.tuple #[.slice a1 ys.length c1,.bool true]) (by simp [results,Tryz.results112,go_sem]) rfl ?_
  exact ⟨_,_,_,by rw [HK.out],by rw [HD.out];exact FO.out,FB.out⟩
def oC (x:al) (ms:List ai) (ds:List aF) (b n:Int):List aF:=if ok8 x ms ds (bC x.n x.s b)=true then lq ds (bC x.n x.s b,(jq x ms ds (bC x.n x.s b)).set (cS x.n x.s b).toNat n) else ds
def sB (x:al) (ms:List ai) (ds:List aF) (b:Int):Int:=if ok8 x ms ds (bC x.n x.s b)=true then 0 else 5
theorem qi {n s b:Int} (hg:bF n s=true) (hb:cl n s b=true):0<=bC n s b/\bC n s b<=s-1/\0<=cS n s b/\cS n s b<n-1:=by
 obtain ⟨g1,g2,g3,g4⟩:=aB.1 hg;have hb2:=hb;unfold cl aX at hb2;rw [if_pos hg] at hb2;have h3:=aI.1 hb2;unfold bC cS;rw [if_pos hb,if_pos hb];have h1:=Int.emod_nonneg b (show n-1≠0 by omega);have h2:=Int.emod_lt_of_pos b (show (0:Int)<n-1 by omega);have h5:b / (n-1)<s:=Int.ediv_lt_of_lt_mul (by omega) (by omega);have h4:0<=b / (n-1):=Int.ediv_nonneg h3.1 (by omega);exact ⟨h4,by omega,h1,h2⟩
theorem qj {x:al} {ms:List ai} {ds:List aF} {s:Int} (ha:aZ x ms ds=true) (hk:ok8 x ms ds s=true):((jq x ms ds s).length:Int)=x.n-1:=by
 unfold aZ dZ at ha;simp only [Bool.and_eq_true] at ha
 obtain ⟨hg,_,_,he,_⟩:=ha;obtain ⟨g1,g2,_⟩:=aB.1 hg;rcases gL ds s with hat|⟨j,d,hat,hdj,_⟩
 . unfold ok8 at hk
   rw [if_pos hat] at hk;simp only [Bool.and_eq_true,Bool.not_eq_true'] at hk
   unfold jq ib;rw [if_pos hat,if_neg (by simp [hk.1]),if_pos hk.2,kE];omega
 have h1:=dy.1 he j d hdj;unfold dj at h1;simp only [Bool.and_eq_true,decide_eq_true_eq] at h1
 unfold jq;rw [if_neg (by omega),hat,Int.toNat_natCast,List.getD_eq_getElem?_getD,hdj];exact h1.2.1
theorem te (w:World) (B:Nat) (x:al) (ms:List ai) (ds:List aF) (fm fd:List Nat) (h:aD w B x ms ds fm fd) (ha:aZ x ms ds=true) (hw:aM ms ds<=2097152) (hl:ds.length<=500000) (b n:Int) (hb:cl x.n x.s b=true):
 Calls Tryz.prog 118 #[.pointer (some ⟨B,0,none⟩),.int .i64 b,.int .i64 n] w fun e w'=>e=.returned (.int .i64 (sB x ms ds b))/\∃fd',aD w' B x ms (oC x ms ds b n) fm fd'/\aw (B :: fd) w w'/\∀b∈fd',b∈fd∨w.heap.size<=b:=by
 have hg:bF x.n x.s=true:=by
  unfold aZ at ha;simp only [Bool.and_eq_true] at ha
  exact ha.1
 obtain ⟨s1,s2,i1,i2⟩:=qi hg hb;have hdl:=fun hk=>qj (s:=bC x.n x.s b) ha hk;have HV:Hid (oC x ms ds b n=if ok8 x ms ds (bC x.n x.s b)=true then lq ds (bC x.n x.s b,(jq x ms ds (bC x.n x.s b)).set (cS x.n x.s b).toNat n) else ds):=rfl;have HC:Hid (sB x ms ds b=if ok8 x ms ds (bC x.n x.s b)=true then 0 else 5):=rfl;have ht:inB (bC x.n x.s b) 0 (x.s-1)=true:=aI.2 ⟨s1,s2⟩;have HA:=aa h;have hlB:=h.lt;have hlm:=h.ltm;obtain ⟨bm,bd,cm,cd,X,hm,hd,hr,r1,r2⟩:=h;unfold aC at X;obtain ⟨k0,k1,k2,k3,k4,k5,k6,k7,k8,k9,k10,k11,k12⟩:=X.cells13;have HM:=aa hm.rd;have HD:=aa hd.rd;have HX:=aa X;clear X hm hd hr r1 r2 ha;go_enter Tryz.func118,Tryz.ntmps118
 go_wp2_with fail
 refine (kA _ x.n x.s b).mono ?_
 rintro e w1 ⟨rfl,b1⟩;have X1:=HX.out.below b1 hlB;have m1:=HM.out.below b1;have d1:=HD.out.below b1;have z1:=b1.size;clear k0 k1 k2 k3 k4 k5 k6 k7 k8 k9 k10 k11 k12;obtain ⟨k0,k1,k2,k3,k4,k5,k6,k7,k8,k9,k10,k11,k12⟩:=X1.cells13;generalize hS:bC x.n x.s b=s at hdl HV HC ht s1 s2 ⊢;clear hS;go_wp2_with fail
 refine (ph _ 171 101 90 x _ _ _ _ _ _ ms ds s m1 d1 hw hg ht).mono ?_
 rintro e w2 ⟨a2,l2,c2,rfl,o2,b2⟩;have X2:=X1.below b2 (by omega);have B2:=Below.andThen b1 b2;have z2:=b2.size;clear k0 k1 k2 k3 k4 k5 k6 k7 k8 k9 k10 k11 k12 X1 m1 d1 b1 b2;cases hok:ok8 x ms ds s
 . have HV2:Hid (oC x ms ds b n=ds/\sB x ms ds b=5):=by unfold Hid;rw [HV.out,HC.out,hok];exact ⟨rfl,rfl⟩
   have HA2:=aa (HA.out.below B2);have HT:=aa (aw.ofBelow B2 (B :: fd));clear hok B2 o2 X2;go_wp2
   go_ret
   refine ⟨aG HV2.out.2.symm,fd,?_,HT.out,fun b hb=>.inl hb⟩
   rw [HV2.out.1];exact HA2.out
 have HV2:Hid (oC x ms ds b n=lq ds (s,(jq x ms ds s).set (cS x.n x.s b).toNat n)/\sB x ms ds b=0):=by unfold Hid;rw [HV.out,HC.out,hok];exact ⟨rfl,rfl⟩
 have hlen:=hdl hok;clear hok hdl;obtain ⟨rfl,_⟩:=af o2.rd;obtain ⟨fe,me,re⟩:=o2.mine;obtain ⟨k0,k1,k2,k3,k4,k5,k6,k7,k8,k9,k10,k11,k12⟩:=X2.cells13;go_wp2_with fail
 refine (lu _ x.n x.s b).mono ?_
 rintro e w3 ⟨rfl,b3⟩;have B3:=Below.andThen B2 b3;have m3:=me.below b3;have z3:=b3.size;generalize cS x.n x.s b=ix at i1 i2 HV2 ⊢;obtain ⟨i,rfl⟩:=Int.eq_ofNat_of_zero_le i1;rw [Int.toNat_natCast] at HV2;generalize jq x ms ds s=zs at m3 me hlen HV2 ⊢;have hil:i<zs.length:=by omega
 obtain ⟨g,rfl⟩:=bU m3 (by omega);obtain ⟨⟨old,ho⟩,fz,hgf,fe',ms',rs'⟩:=gK (t:=ey) (v:=.int .i64 n) (x:=n) (f:=[]) rfl m3 hil ⟨⟨rfl,rfl⟩,by simp⟩ (by simp);have i3:(i:Int)<(zs.length:Int):=by omega
 have BS:Below w.heap.size w (w3.setCell ⟨g,i,none⟩ (.int .i64 n)):=B3.setCell (show w.heap.size<=g by have:=(re g hgf).1;omega) _;have re2:∀b∈fe',w.heap.size<=b:=fun b hb=>by
  rcases rs' b hb with h|h
  . have:=(re b h).1;omega
  simp at h
 have HA3:=aa (HA.out.below BS);have HP:=aa (tb _ B x ms ds fm fd HA3.out s (some ⟨g,0,none⟩) c2 (zs.set i n) fe' (by rw [List.length_set];exact ms') (fun hm=>by have:=re2 _ hm;omega) (fun b hb hm=>by have h1:=re2 b hb;have h2:=hlm.1 b hm;omega) (fun b hb hm=>by have h1:=re2 b hb;have h2:=hlm.2 b hm;omega) hl);rw [List.length_set] at HP;have HBS:=aa BS;have RE:=aa re2;clear k0 k1 k2 k3 k4 k5 k6 k7 k8 k9 k10 k11 k12 X2 me re B2 b3 B3 m3 ms' rs' BS o2 re2 HM HD HX HA;go_wp2_with fail
 refine HP.out.mono ?_
 rintro e w5 ⟨rfl,fd5,hA5,hT5,hf5⟩;have HA5:=aa hA5;have HT:Hid (aw (B :: fd) w w5):=⟨hT5.os.trans HBS.out.os,hT5.tape.trans HBS.out.tape,hT5.output.trans HBS.out.output,Nat.le_trans HBS.out.size hT5.size,fun k hk hn=>by
  rw [hT5.block k (Nat.lt_of_lt_of_le hk HBS.out.size) (fun hm=>by
   rcases List.mem_cons.1 hm with e|hm
   . exact hn (by rw [e];exact List.mem_cons_self)
   rcases List.mem_append.1 hm with hm|hm
   . exact hn (List.mem_cons_of_mem _ hm)
   have:=RE.out k hm;omega),HBS.out.block k hk]⟩
 have HF:Hid (∀b∈fd5,b∈fd∨w.heap.size<=b):=fun b hb=>by
  rcases hf5 b hb with h|h|h
  . exact .inl h
  . exact .inr (RE.out b h)
  exact .inr (Nat.le_trans HBS.out.size h)
 clear hA5 hT5 hf5 HP;go_wp2
 go_ret
 refine ⟨aG HV2.out.2.symm,fd5,?_,HT.out,HF.out⟩
 rw [HV2.out.1];exact HA5.out
def iX (d:ai):ai:=(d.1,[],true,d.2.2.2)
def dT (x:al) (m:Int):al:=if x.lost=-1∨x.lost=m then {x with lost:=m,vG:=0} else {x with vH:=true}
def gk (q:al×List ai) (m:Nat):al×List ai:=if (!(dT q.1 (m:Int)).down&&!(dT q.1 (m:Int)).vH&&decide ((dT q.1 (m:Int)).gen<60000))=true then cK (dT q.1 (m:Int),q.2.set m (iX (q.2.getD m gZ))) else (dT q.1 (m:Int),q.2.set m (iX (q.2.getD m gZ)))
theorem uB (d:ai) (h:bp d.1 d.2.1 d.2.2.2=true):bp (iX d).1 (iX d).2.1 (iX d).2.2.2=true:=by
 unfold iX;dsimp only
 unfold bp at h ⊢;simp only [Bool.and_eq_true] at h ⊢
 simp_all
theorem iY {w:World} {B:Nat} {x:al} {ms:List ai} {ds:List (Int×List Int)} {fm fd:List Nat} (h:aD w B x ms ds fm fd) (m:Int):aD ((w.setCell ⟨B,4,none⟩ (.int .i64 m)).setCell ⟨B,5,none⟩ (.int .i64 0)) B {x with lost:=m,vG:=0} ms ds fm fd/\aD (w.setCell ⟨B,12,none⟩ (.bool true)) B {x with vH:=true} ms ds fm fd:=by
 obtain ⟨bm,bd,cm,cd,X,hm,hd,hr,r1,r2⟩:=h;exact ⟨⟨bm,bd,cm,cd,(X.set 4 _).set 5 _,(hm.setCell r1 _).setCell r1 _,(hd.setCell r2 _).setCell r2 _,hr,r1,r2⟩,⟨bm,bd,cm,cd,X.set 12 _,hm.setCell r1 _,hd.setCell r2 _,hr,r1,r2⟩⟩
theorem ic {w:World} {B:Nat} {x:al} {ms:List ai} {ds:List (Int×List Int)} {fm fd:List Nat} (h:aD w B x ms ds fm fd):w.cell? ⟨B,4,none⟩=some (.int .i64 x.lost)/\w.cell? ⟨B,5,none⟩=some (.int .i64 x.vG)/\w.cell? ⟨B,8,none⟩=some (.int .i64 x.gen)/\w.cell? ⟨B,11,none⟩=some (.bool x.down)/\w.cell? ⟨B,12,none⟩=some (.bool x.vH)/\∀j,w.frozen? ⟨B,j,none⟩=false:=by
 obtain ⟨bm,bd,cm,cd,X,_⟩:=h;have fz:=X.frozen;unfold aC at X;obtain ⟨k0,k1,k2,k3,k4,k5,k6,k7,k8,k9,k10,k11,k12⟩:=X.cells13;exact ⟨k4,k5,k8,k11,k12,fz⟩
theorem qk (w:World) (B:Nat) (x:al) (ms:List ai) (ds:List (Int×List Int)) (fm fd:List Nat) (h:aD w B x ms ds fm fd) (hf:x.vI<=1000) (hM:bM ms) (hg0:0<=x.gen) (hg1:x.gen<=60000) (m:Nat) (hm:m<ms.length):
 Calls Tryz.prog 132 #[.pointer (some ⟨B,0,none⟩),.int .i64 (m:Int)] w fun e w'=>e=.returned (.tuple #[])/\∃fm',aD w' B (gk (x,ms) m).1 (gk (x,ms) m).2 ds fm' fd/\aJ B fm w fm' w':=by
 obtain ⟨bm,bd,cm,cd,X,hmm,hdd,hr,r1,r2⟩:=h;have hm63:=(af hmm.rd).2;obtain ⟨g,rfl⟩:=bU hmm (by omega);have hdj:ms[m]?=some (ms[m]'hm):=List.getElem?_eq_getElem hm;generalize ms[m]'hm=d at hdj;have hgm:ms.getD m gZ=d:=eE hdj;obtain ⟨hgl,a0,a1,a3,c0,c1,c3,ss,cs,f,bs,rfl,q0,q1,q2,q3,p0,p1,p3⟩:=dM hmm hdj;have X0:=X;unfold aC at X0;have k3:=X0.cells13.2.2.2.1;have hwt:=du (hM m _ hdj) f;dsimp only at hwt
 have zB:=X.lt;have HOK:=aa (hM.set (i:=m) (uB _ (hM m _ hdj)));have HFA:Hid (gk (x,ms) m=if (!(dT x (m:Int)).down&&!(dT x (m:Int)).vH&&decide ((dT x (m:Int)).gen<60000))=true then cK (dT x (m:Int),ms.set m (iX (ss,cs,f,bs))) else (dT x (m:Int),ms.set m (iX (ss,cs,f,bs)))):=by unfold Hid gk;dsimp only;rw [hgm]
 have XH:=aa X;have MH:=aa hmm;have DH:=aa hdd;have R0:=aa p0;have R1:=aa p1;have R3:=aa p3;have hS:w.drew.cell? ⟨B,3,none⟩=some (.slice (some ⟨g,0,none⟩) ms.length cm)/\w.drew.cell? ⟨g,m*4,none⟩=some (.slice a0 ss.length c0)/\w.drew.cell? ⟨g,m*4+1,none⟩=some (.slice a1 cs.length c1)/\w.drew.cell? ⟨g,m*4+2,none⟩=some (.bool f)/\w.drew.cell? ⟨g,m*4+3,none⟩=some (.slice a3 bs.length c3):=⟨k3,q0,q1,q2,q3⟩;have i1:(0:Int)<=(m:Int):=by omega
 have i3:(m:Int)<(ms.length:Int):=by omega
 clear X X0 hmm hdd p0 p1 p3 hM hdj hgm;go_enter Tryz.func132,Tryz.ntmps132
 go_wp2_with fail
 refine ah.start (S:=fun w'=>w'.cell? ⟨B,3,none⟩=some (.slice (some ⟨g,0,none⟩) ms.length cm)/\w'.cell? ⟨g,m*4,none⟩=some (.slice a0 ss.length c0)/\w'.cell? ⟨g,m*4+1,none⟩=some (.slice a1 cs.length c1)/\w'.cell? ⟨g,m*4+2,none⟩=some (.bool f)/\w'.cell? ⟨g,m*4+3,none⟩=some (.slice a3 bs.length c3)) (k:=14) (by kernel_rfl) ?_
 refine ah.t 0 hS ?_
 refine ah.t 1 hS ?_
 refine ah.t 2 hS ?_
 refine ah.t 3 hS ?_
 refine ah.t 4 hS ?_
 refine ah.t 5 hS ?_
 refine ah.t 6 hS ?_
 refine ah.t 7 hS ?_
 refine ah.t 8 hS ?_
 refine ah.t 9 hS ?_
 refine ah.t 10 hS ?_
 refine ah.t 11 hS ?_
 refine ah.one (i:=12) (by kernel_rfl) rfl (fun K hK=>?_)
 go_simp
 refine (iI _ 171 _ _ _ _ _ _ _ _ _ ss cs f bs R0.out.drew R1.out.drew R3.out.drew (by omega)).mono ?_
 rintro e w2 ⟨u0,u1,u3,rfl,o2,b2'⟩;have b2:Below w.heap.size w w2:=(Below.refl w.heap.size w).drew.trans b2';have o2b:(bR 171).Own w2 w.heap.size w2.heap.size [u0,u1,.bool true,u3] (ss,[],true,bs):=o2;obtain ⟨d0,l0,f0,d1,l1,f1,d3,l3,f3,hv0,hv1,hv3⟩:=bS o2b;subst hv0 hv1 hv3;obtain ⟨fpx,mx,rx⟩:=o2b.mine;obtain ⟨cOld,fz,hgm,fm9,hA9,hMv9⟩:=eu (m:=m) XH.out MH.out DH.out hr r1 r2 b2 (by omega) mx (fun b hb=>(rx b hb).1);obtain ⟨o0,t0⟩:=cOld 0 (by omega);obtain ⟨o1,t1⟩:=cOld 1 (by omega);obtain ⟨o2',t2⟩:=cOld 2 (by omega);obtain ⟨o3,t3⟩:=cOld 3 (by omega);rw [Nat.add_zero] at t0;have HA:Hid (aD _ B x (ms.set m (iX (ss,cs,f,bs))) ds fm9 fd):=hA9;have HMV:=aa hMv9;have hS2:w2.cell? ⟨B,3,none⟩=some (.slice (some ⟨g,0,none⟩) ms.length cm)/\w2.cell? ⟨g,m*4,none⟩=some (.slice a0 ss.length c0)/\w2.cell? ⟨g,m*4+1,none⟩=some (.slice a1 cs.length c1)/\w2.cell? ⟨g,m*4+2,none⟩=some (.bool f)/\w2.cell? ⟨g,m*4+3,none⟩=some (.slice a3 bs.length c3):=⟨(b2.cell (p:=⟨B,3,none⟩) zB).trans k3,(b2.cell (p:=⟨g,m*4,none⟩) hgl).trans q0,(b2.cell (p:=⟨g,m*4+1,none⟩) hgl).trans q1,(b2.cell (p:=⟨g,m*4+2,none⟩) hgl).trans q2,(b2.cell (p:=⟨g,m*4+3,none⟩) hgl).trans q3⟩;have gB:¬g=B:=fun e=>r1 (e▸hgm);unfold fi at HA HMV;clear k3 q0 q1 q2 q3 o2 o2b b2 b2' mx rx cOld hA9 hMv9 XH MH DH R0 R1 R3 hwt;go_wp2_with fail
 refine hK.out _ _ (fun _=>hS2) ?_
 clear hK K;refine ah.t 13 hS2 ?_
 refine ah.one (i:=14) (by kernel_rfl) rfl (fun K hK=>?_)
 go_simp
 refine hK.out _ _ (fun h=>absurd rfl h) ?_
 clear hK K;refine ah.done (by kernel_rfl) ?_ _
 clear hS hS2 t0 t1 t2 t3 fz;generalize (((w2.setCell ⟨g,m*4,none⟩ (.slice d0 l0 f0)).setCell ⟨g,m*4+1,none⟩ (.slice d1 l1 f1)).setCell ⟨g,m*4+2,none⟩ (.bool true)).setCell ⟨g,m*4+3,none⟩ (.slice d3 l3 f3)=w3 at HA HMV ⊢;obtain ⟨c4,c5,c8,c11,c12,fz⟩:=ic HA.out;generalize ms.set m (iX (ss,cs,f,bs))=ns at HA HFA HOK;by_cases l1:x.lost=-1
 . have hlo:x.lost=-1∨x.lost=(m:Int):=.inl l1
   have e1:(x.lost==-1)=true:=by simpa using l1
   clear l1;have HFX:Hid (dT x (m:Int)=({x with lost:=(m:Int),vG:=0}:al)):=by unfold Hid dT;rw [if_pos hlo]
   clear hlo;have HA4:=aa (iY HA.out (m:Int)).1;have MV4:=aa ((HMV.out.trans (aJ.set (B:=B) (j:=4) (fm:=fm9) (w:=w3) (.int .i64 (m:Int)))).trans (aJ.set (B:=B) (j:=5) (.int .i64 0)));cases hdn:x.down
   . cases hbr:x.vH
     . by_cases hgg:x.gen<60000
       . have HV:Hid (gk (x,ms) m=cK (({x with lost:=(m:Int),vG:=0}:al),ns)):=by unfold Hid;rw [HFA.out,HFX.out,if_pos (by simp [hdn,hbr,hgg])]
         rw [hdn] at c11;rw [hbr] at c12;clear hdn hbr;have HMK:=aa (gg _ B ({x with lost:=(m:Int),vG:=0}:al) ns ds fm9 fd HA4.out hf HOK.out hg0 hg1);go_wp2_with fail
         refine HMK.out.mono ?_
         rintro e w5 ⟨rfl,fm5,A5,M5⟩;have HA5:=aa A5;have MV5:=aa (MV4.out.trans M5);clear A5 M5 HMK HA4 MV4;go_wp2
         refine bodyPost_end (v:=.tuple #[]) (results_none rfl _ _ _) rfl ?_
         refine ⟨rfl,fm5,?_,MV5.out⟩
         rw [HV.out];exact HA5.out
       have HV:Hid (gk (x,ms) m=(({x with lost:=(m:Int),vG:=0}:al),ns)):=by unfold Hid;rw [HFA.out,HFX.out,if_neg (by simp [hgg])]
       rw [hdn] at c11;rw [hbr] at c12;clear hdn hbr;go_wp2
       refine bodyPost_end (v:=.tuple #[]) (results_none rfl _ _ _) rfl ?_
       refine ⟨rfl,fm9,?_,MV4.out⟩
       rw [HV.out];exact HA4.out
     have HV:Hid (gk (x,ms) m=(({x with lost:=(m:Int),vG:=0}:al),ns)):=by unfold Hid;rw [HFA.out,HFX.out,if_neg (by simp [hbr])]
     rw [hdn] at c11;rw [hbr] at c12;clear hdn hbr;go_wp2
     refine bodyPost_end (v:=.tuple #[]) (results_none rfl _ _ _) rfl ?_
     refine ⟨rfl,fm9,?_,MV4.out⟩
     rw [HV.out];exact HA4.out
   have HV:Hid (gk (x,ms) m=(({x with lost:=(m:Int),vG:=0}:al),ns)):=by unfold Hid;rw [HFA.out,HFX.out,if_neg (by simp [hdn])]
   rw [hdn] at c11;clear hdn;go_wp2
   refine bodyPost_end (v:=.tuple #[]) (results_none rfl _ _ _) rfl ?_
   refine ⟨rfl,fm9,?_,MV4.out⟩
   rw [HV.out];exact HA4.out
 have e1:(x.lost==-1)=false:=by simpa using l1
 by_cases l2:x.lost=(m:Int)
 . have hlo:x.lost=-1∨x.lost=(m:Int):=.inr l2
   have e2:(x.lost==(m:Int))=true:=by simpa using l2
   clear l1 l2;have HFX:Hid (dT x (m:Int)=({x with lost:=(m:Int),vG:=0}:al)):=by unfold Hid dT;rw [if_pos hlo]
   clear hlo;have HA4:=aa (iY HA.out (m:Int)).1;have MV4:=aa ((HMV.out.trans (aJ.set (B:=B) (j:=4) (fm:=fm9) (w:=w3) (.int .i64 (m:Int)))).trans (aJ.set (B:=B) (j:=5) (.int .i64 0)));cases hdn:x.down
   . cases hbr:x.vH
     . by_cases hgg:x.gen<60000
       . have HV:Hid (gk (x,ms) m=cK (({x with lost:=(m:Int),vG:=0}:al),ns)):=by unfold Hid;rw [HFA.out,HFX.out,if_pos (by simp [hdn,hbr,hgg])]
         rw [hdn] at c11;rw [hbr] at c12;clear hdn hbr;have HMK:=aa (gg _ B ({x with lost:=(m:Int),vG:=0}:al) ns ds fm9 fd HA4.out hf HOK.out hg0 hg1);go_wp2_with fail
         refine HMK.out.mono ?_
         rintro e w5 ⟨rfl,fm5,A5,M5⟩;have HA5:=aa A5;have MV5:=aa (MV4.out.trans M5);clear A5 M5 HMK HA4 MV4;go_wp2
         refine bodyPost_end (v:=.tuple #[]) (results_none rfl _ _ _) rfl ?_
         refine ⟨rfl,fm5,?_,MV5.out⟩
         rw [HV.out];exact HA5.out
       have HV:Hid (gk (x,ms) m=(({x with lost:=(m:Int),vG:=0}:al),ns)):=by unfold Hid;rw [HFA.out,HFX.out,if_neg (by simp [hgg])]
       rw [hdn] at c11;rw [hbr] at c12;clear hdn hbr;go_wp2
       refine bodyPost_end (v:=.tuple #[]) (results_none rfl _ _ _) rfl ?_
       refine ⟨rfl,fm9,?_,MV4.out⟩
       rw [HV.out];exact HA4.out
     have HV:Hid (gk (x,ms) m=(({x with lost:=(m:Int),vG:=0}:al),ns)):=by unfold Hid;rw [HFA.out,HFX.out,if_neg (by simp [hbr])]
     rw [hdn] at c11;rw [hbr] at c12;clear hdn hbr;go_wp2
     refine bodyPost_end (v:=.tuple #[]) (results_none rfl _ _ _) rfl ?_
     refine ⟨rfl,fm9,?_,MV4.out⟩
     rw [HV.out];exact HA4.out
   have HV:Hid (gk (x,ms) m=(({x with lost:=(m:Int),vG:=0}:al),ns)):=by unfold Hid;rw [HFA.out,HFX.out,if_neg (by simp [hdn])]
   rw [hdn] at c11;clear hdn;go_wp2
   refine bodyPost_end (v:=.tuple #[]) (results_none rfl _ _ _) rfl ?_
   refine ⟨rfl,fm9,?_,MV4.out⟩
   rw [HV.out];exact HA4.out
 have e2:(x.lost==(m:Int))=false:=by simpa using l2
 have HFX:Hid (dT x (m:Int)=({x with vH:=true}:al)):=by unfold Hid dT;rw [if_neg (fun h=>h.elim l1 l2)]
 clear l1 l2;have HA4:=aa (iY HA.out (m:Int)).2;have MV4:=aa (HMV.out.trans (aJ.set (B:=B) (j:=12) (fm:=fm9) (w:=w3) (.bool true)));have HV:Hid (gk (x,ms) m=(({x with vH:=true}:al),ns)):=by unfold Hid;rw [HFA.out,HFX.out,if_neg (by simp)]
 cases hdn:x.down
 . rw [hdn] at c11
   clear hdn;go_wp2
   refine bodyPost_end (v:=.tuple #[]) (results_none rfl _ _ _) rfl ?_
   refine ⟨rfl,fm9,?_,MV4.out⟩
   rw [HV.out];exact HA4.out
 rw [hdn] at c11;clear hdn;go_wp2
 refine bodyPost_end (v:=.tuple #[]) (results_none rfl _ _ _) rfl ?_
 refine ⟨rfl,fm9,?_,MV4.out⟩
 rw [HV.out];exact HA4.out
def ql (d:Bool):Int:=if d=true then 6 else 0
theorem sC {a b:Int} {p:Prop} (h:(Ending.returned (Value.int .i64 a)=.returned (.int .i64 b))/\p):(Ending.returned (Value.int .i64 a)=.returned (.int .i64 b))/\p:=h
def kF (s:Int):ai:=(dS (6+s),[],false,[])
def eS (q:al×List ai):al×List ai:=cK ({q.1 with vG:=0},q.2.set q.1.lost.toNat (kF q.1.s))
theorem jE {w:World} {B:Nat} {x:al} {ms:List ai} {ds:List (Int×List Int)} {fm fd:List Nat} (h:aD w B x ms ds fm fd) (k:Int):aD (w.setCell ⟨B,5,none⟩ (.int .i64 k)) B {x with vG:=k} ms ds fm fd:=by
 obtain ⟨bm,bd,cm,cd,X,hm,hd,hr,r1,r2⟩:=h;exact ⟨bm,bd,cm,cd,X.set 5 _,hm.setCell r1 _,hd.setCell r2 _,hr,r1,r2⟩
theorem pi (w:World) (B:Nat) (x:al) (ms:List ai) (ds:List (Int×List Int)) (fm fd:List Nat) (h:aD w B x ms ds fm fd) (hf:x.vI<=1000) (hM:bM ms) (hg0:0<=x.gen) (hg1:x.gen<=60000) (hg:bF x.n x.s=true) (m:Nat) (hlo:x.lost=(m:Int)) (hm:m<ms.length):
 Calls Tryz.prog 140 #[.pointer (some ⟨B,0,none⟩)] w fun e w'=>e=.returned (.int .i64 (ql (eS (x,ms)).1.down))/\∃fm',aD w' B (eS (x,ms)).1 (eS (x,ms)).2 ds fm' fd/\aJ B fm w fm' w':=by
 obtain ⟨g1,g2,g3,g4⟩:=aB.1 hg;obtain ⟨bm,bd,cm,cd,X,hmm,hdd,hr,r1,r2⟩:=h;have hm63:=(af hmm.rd).2;obtain ⟨g,rfl⟩:=bU hmm (by omega);have X0:=X;unfold aC at X0;obtain ⟨k0,k1,k2,k3,k4,k5,k6,k7,k8,k9,k10,k11,k12⟩:=X0.cells13;rw [hlo] at k4;have zB:=X.lt;have HOK:Hid (bM (ms.set m (kF x.s))):=hM.set (lR (by omega) (by omega));have HSA:Hid (eS (x,ms)=cK ({x with vG:=0},ms.set m (kF x.s))):=by unfold Hid eS;dsimp only;rw [hlo,Int.toNat_natCast]
 have XH:=aa X;have MH:=aa hmm;have DH:=aa hdd;have hS:w.drew.cell? ⟨B,3,none⟩=some (.slice (some ⟨g,0,none⟩) ms.length cm)/\w.drew.cell? ⟨B,4,none⟩=some (.int .i64 (m:Int))/\w.drew.cell? ⟨B,1,none⟩=some (.int .i64 x.n)/\w.drew.cell? ⟨B,2,none⟩=some (.int .i64 x.s):=⟨k3,k4,k1,k2⟩;have i1:(0:Int)<=(m:Int):=by omega
 have i3:(m:Int)<(ms.length:Int):=by omega
 clear X X0 hmm hdd hM hlo hg k0 k5 k6 k7 k8 k9 k10 k11 k12;go_enter Tryz.func140,Tryz.ntmps140
 go_wp2_with fail
 refine ah.start (S:=fun w'=>w'.cell? ⟨B,3,none⟩=some (.slice (some ⟨g,0,none⟩) ms.length cm)/\w'.cell? ⟨B,4,none⟩=some (.int .i64 (m:Int))/\w'.cell? ⟨B,1,none⟩=some (.int .i64 x.n)/\w'.cell? ⟨B,2,none⟩=some (.int .i64 x.s)) (k:=15) (by kernel_rfl) ?_
 refine ah.t 0 hS ?_
 refine ah.t 1 hS ?_
 refine ah.t 2 hS ?_
 refine ah.t 3 hS ?_
 refine ah.t 4 hS ?_
 refine ah.t 5 hS ?_
 refine ah.t 6 hS ?_
 refine ah.t 7 hS ?_
 refine ah.t 8 hS ?_
 refine ah.t 9 hS ?_
 refine ah.t 10 hS ?_
 refine ah.t 11 hS ?_
 refine ah.one (i:=12) (by kernel_rfl) rfl (fun K hK=>?_)
 go_simp
 refine (ek _ x.n x.s ⟨g3,g4⟩).mono ?_
 rintro e w1 ⟨rfl,b1'⟩;have b1:Below w.heap.size w w1:=(Below.refl w.heap.size w).drew.trans b1';have hS1:w1.cell? ⟨B,3,none⟩=some (.slice (some ⟨g,0,none⟩) ms.length cm)/\w1.cell? ⟨B,4,none⟩=some (.int .i64 (m:Int))/\w1.cell? ⟨B,1,none⟩=some (.int .i64 x.n)/\w1.cell? ⟨B,2,none⟩=some (.int .i64 x.s):=⟨(b1.cell (p:=⟨B,3,none⟩) zB).trans k3,(b1.cell (p:=⟨B,4,none⟩) zB).trans k4,(b1.cell (p:=⟨B,1,none⟩) zB).trans k1,(b1.cell (p:=⟨B,2,none⟩) zB).trans k2⟩;have z1:=b1.size;have B1:=aa b1;clear b1 b1';go_wp2_with fail
 refine hK.out _ _ (fun _=>hS1) ?_
 clear hK K;refine ah.one (i:=13) (by kernel_rfl) rfl (fun K hK=>?_)
 go_simp
 refine (fZ _ (6+x.s)).mono ?_
 rintro e w2 ⟨a0,c0,rfl,o2,b2⟩;have b02:=Below.andThen B1.out b2;have z2:=b2.size;have om:(bR 171).Own w2 w.heap.size w2.heap.size [.slice a0 (dS (6+x.s)).length c0,.slice none 0 0,.bool false,.slice none 0 0] (kF x.s):=ch o2 ((dc (t:=tWr) (E:=171) w2).own (lo:=w2.heap.size) (hi:=w2.heap.size) (by simp)) ((dc (t:=ey) (E:=3) w2).own (lo:=w2.heap.size) (hi:=w2.heap.size) (by simp)) (.inl (Nat.le_refl _)) (.inl (Nat.le_refl _)) (.inl (Nat.le_refl _)) ⟨z1,Nat.le_refl _⟩ ⟨by omega,Nat.le_refl _⟩ ⟨by omega,Nat.le_refl _⟩;obtain ⟨fpx,mx,rx⟩:=om.mine;obtain ⟨cOld,fz,hgm,fm9,hA9,hMv9⟩:=eu (m:=m) XH.out MH.out DH.out hr r1 r2 b02 (by omega) mx (fun b hb=>(rx b hb).1);obtain ⟨o0,t0⟩:=cOld 0 (by omega);obtain ⟨o1,t1⟩:=cOld 1 (by omega);obtain ⟨o2',t2⟩:=cOld 2 (by omega);obtain ⟨o3,t3⟩:=cOld 3 (by omega);rw [Nat.add_zero] at t0;have HA:=aa hA9;have HMV:=aa hMv9;have hS2:w2.cell? ⟨B,3,none⟩=some (.slice (some ⟨g,0,none⟩) ms.length cm)/\w2.cell? ⟨B,4,none⟩=some (.int .i64 (m:Int))/\w2.cell? ⟨B,1,none⟩=some (.int .i64 x.n)/\w2.cell? ⟨B,2,none⟩=some (.int .i64 x.s):=⟨(b02.cell (p:=⟨B,3,none⟩) zB).trans k3,(b02.cell (p:=⟨B,4,none⟩) zB).trans k4,(b02.cell (p:=⟨B,1,none⟩) zB).trans k1,(b02.cell (p:=⟨B,2,none⟩) zB).trans k2⟩;have gB:¬g=B:=fun e=>r1 (e▸hgm);unfold fi at HA HMV;clear k3 k4 k1 k2 o2 om b2 b02 mx rx cOld hA9 hMv9 XH MH DH hS1 B1;go_wp2_with fail
 refine hK.out _ _ (fun _=>hS2) ?_
 clear hK K;refine ah.t 14 hS2 ?_
 refine ah.one (i:=15) (by kernel_rfl) rfl (fun K hK=>?_)
 go_simp
 refine hK.out _ _ (fun h=>absurd rfl h) ?_
 clear hK K;refine ah.done (by kernel_rfl) ?_ _
 clear hS hS2 t0 t1 t2 t3 fz;generalize (((w2.setCell ⟨g,m*4,none⟩ (.slice a0 (dS (6+x.s)).length c0)).setCell ⟨g,m*4+1,none⟩ (.slice none 0 0)).setCell ⟨g,m*4+2,none⟩ (.bool false)).setCell ⟨g,m*4+3,none⟩ (.slice none 0 0)=w3 at HA HMV ⊢;obtain ⟨c4,c5,c8,c11,c12,fz⟩:=ic HA.out;generalize ms.set m (kF x.s)=ns at HA HSA HOK;have HA4:=aa (jE HA.out 0);have MV4:=aa (HMV.out.trans (aJ.set (B:=B) (j:=5) (fm:=fm9) (w:=w3) (.int .i64 0)));have HMK:=aa (gg _ B {x with vG:=0} ns ds fm9 fd HA4.out hf HOK.out hg0 hg1);go_wp2_with fail
 refine HMK.out.mono ?_
 rintro e w5 ⟨rfl,fm5,A5,M5⟩;have MV5:=aa (MV4.out.trans M5);clear M5 HMK HA4 MV4 HA HMV c4 c5 c8 c11 c12 fz;generalize cK ({x with vG:=0},ns)=st at A5 HSA;obtain ⟨y,os⟩:=st;dsimp only at A5
 have HA5:=aa A5;obtain ⟨_,_,_,d11,_,_⟩:=ic A5;clear A5;cases hdn:y.down
 . have HF:Hid (Ending.returned (Value.int .i64 0)=.returned (.int .i64 (ql (eS (x,ms)).1.down))/\∃fm',aD w5 B (eS (x,ms)).1 (eS (x,ms)).2 ds fm' fd/\aJ B fm w fm' w5):=by
    unfold Hid;rw [HSA.out];refine ⟨?_,fm5,HA5.out,MV5.out⟩
    show _=Ending.returned (.int .i64 (ql y.down))
    rw [hdn];rfl
   rw [hdn] at d11;clear hdn;go_wp2
   go_ret
   exact sC HF.out
 have HF:Hid (Ending.returned (Value.int .i64 6)=.returned (.int .i64 (ql (eS (x,ms)).1.down))/\∃fm',aD w5 B (eS (x,ms)).1 (eS (x,ms)).2 ds fm' fd/\aJ B fm w fm' w5):=by
  unfold Hid;rw [HSA.out];refine ⟨?_,fm5,HA5.out,MV5.out⟩
  show _=Ending.returned (.int .i64 (ql y.down))
  rw [hdn];rfl
 rw [hdn] at d11;clear hdn;go_wp2
 go_ret
 exact sC HF.out
section
variable {P:Program} {ops:Array Oper} {Q:Exit->Act->World->Prop} {S:World->Prop}
theorem uC {i i':Nat} {o o':Oper} {fuel:Nat} {l:Array Bool} {a:Act} {w:World} {tl tl':List Oper} (hr:Region.ready .any ops l=[i,i']) (ho:ops.toList.drop i=o :: tl) (ho':ops.toList.drop i'=o' :: tl') (hw:Region.wanted o (yielded ops a.tmps)=true) (hw':Region.wanted o' (yielded ops a.tmps)=true)
 (h:∀K':Act->World->Prop,Shut (∀a w,S w->(S w->wpAnyH P .any ops Q S fuel (l.setIfInBounds i true) a w)->K' a w)->Oper.wp P o a w K' Q)
 (h':∀K':Act->World->Prop,Shut (∀a w,S w->(S w->wpAnyH P .any ops Q S fuel (l.setIfInBounds i' true) a w)->K' a w)->Oper.wp P o' a w K' Q):wpAnyH P .any ops Q S (fuel+1) l a w:=
 wpAnyH_ready hr (by simp) (AllReadyH.cons (gN ho) (fun K' hK=>by rw [if_pos hw];exact h K' hK) (AllReadyH.cons (gN ho') (fun K' hK=>by rw [if_pos hw'];exact h' K' hK) AllReadyH.nil))
end
end Go.Proofs.YtejeekndbnpmoaaGreat
