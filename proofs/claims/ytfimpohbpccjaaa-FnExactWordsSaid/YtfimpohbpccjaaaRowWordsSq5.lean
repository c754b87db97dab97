/-
 The walk of the program's MemOk: whether a disk is right. Condition: it weighs at most 2097152.
-/
import Derived.Test.YtfimpohbpccjaaaRowWordsSq2
import Derived.Test.YtfimpohbpccjaaaRowWordsSq3

set_option maxRecDepth 100000
set_option maxHeartbeats 8000000
set_option linter.unusedSimpArgs false

namespace Go.Proofs.Ytfimpohbpccjaaa
open Go.RowKit

theorem bH {t:Ty} {E:TypeId} {w:World} {a:Option Addr} {n cap:Nat} {d:List t.D} (ht:t.n=4) (h:(bi t E).Rd w [.slice a n cap] d):
 n=0∨∃b off,a=some ⟨b,off,none⟩/\b<w.heap.size/\∀i x,d[i]?=some x->∃v0 v1 v2 v3,w.cell? ⟨b,off+i*4,none⟩=some v0/\w.cell? ⟨b,off+i*4+1,none⟩=some v1/\w.cell? ⟨b,off+i*4+2,none⟩=some v2/\w.cell? ⟨b,off+i*4+3,none⟩=some v3/\t.Rd w [v0,v1,v2,v3] x:=by
 obtain ⟨fp,a',cap',hv,h2,h3,h4⟩:=h;simp only [List.cons.injEq,Value.slice.injEq,and_true] at hv
 obtain ⟨rfl,rfl,rfl⟩:=hv;rcases h4 with ⟨h5,_⟩|⟨b,off,fps,h5,h6,_,_,h9⟩
 . exact .inl h5
 refine .inr ⟨b,off,h5,h6,fun i x hx=>?_⟩
 obtain ⟨f,cs,_,hrd,hc⟩:=h9 i x hx;have hl:=t.rdLen hrd;rw [ht] at hl;match cs,hl with
 | [v0,v1,v2,v3],_=>
  refine ⟨v0,v1,v2,v3,?_,?_,?_,?_,f,hrd⟩
  . have:=hc 0 (by omega)
    rw [ht,Nat.add_zero] at this;exact this
  . have:=hc 1 (by omega)
    rw [ht,←Nat.add_assoc] at this;exact this
  . have:=hc 2 (by omega)
    rw [ht,←Nat.add_assoc] at this;exact this
  have:=hc 3 (by omega);rw [ht,←Nat.add_assoc] at this;exact this
theorem fy {t:Ty} {E:TypeId} {w:World} {lo hi lo' hi' g n cap j:Nat} {d:List t.D} {v0 v1 v2 v3:Value} {x:t.D} (ht:t.n=4) (h:(bi t E).Own w lo hi [.slice (some ⟨g,0,none⟩) n cap] d)
 (hj:j<n) (hx:t.Own w lo' hi' [v0,v1,v2,v3] x) (hlo:hi<=lo') (hle:hi<=hi'):
 (∀q,q<4->∃old,w.cell? ⟨g,j*4+q,none⟩=some old)/\(∀q,w.frozen? ⟨g,q,none⟩=false) /\
  (bi t E).Own ((((w.setCell ⟨g,j*4,none⟩ v0).setCell ⟨g,j*4+1,none⟩ v1).setCell ⟨g,j*4+2,none⟩ v2).setCell ⟨g,j*4+3,none⟩ v3) lo hi' [.slice (some ⟨g,0,none⟩) n cap] (d.set j x) /\
  But lo hi w ((((w.setCell ⟨g,j*4,none⟩ v0).setCell ⟨g,j*4+1,none⟩ v1).setCell ⟨g,j*4+2,none⟩ v2).setCell ⟨g,j*4+3,none⟩ v3):=by
 obtain ⟨cur,hc,hcs,hnc,_,_⟩:=dC h;rw [ht] at hcs;refine ⟨fun q hq=>⟨cur[j*4+q]'(by omega),?_⟩,fun q=>frozen_of_row w g _ cur E hc,?_⟩
 . rw [cell_of_row w g _ cur E (0,0) hc,Array.getElem?_eq_getElem]
 refine ex h hj hx hlo hle rfl rfl rfl (by simp) (fun b hb=>?_) (fun cur2 hc2 _=>?_)
 . rw [Below.heap_setCell _ _ _ _ hb,Below.heap_setCell _ _ _ _ hb,Below.heap_setCell _ _ _ _ hb,Below.heap_setCell _ _ _ _ hb]
 rw [hc] at hc2;simp at hc2
 subst hc2;refine ⟨(((cur.setIfInBounds (j*4) v0).setIfInBounds (j*4+1) v1).setIfInBounds (j*4+2) v2).setIfInBounds (j*4+3) v3,heap_setCell_same _ g _ _ E v3 (heap_setCell_same _ g _ _ E v2 (heap_setCell_same _ g _ _ E v1 (heap_setCell_same w g _ cur E v0 hc))),by simp,fun k=>?_⟩
 rw [ht,Array.toList_setIfInBounds,Array.toList_setIfInBounds,Array.toList_setIfInBounds,Array.toList_setIfInBounds];by_cases h0:k=j*4
 . subst h0
   rw [if_pos (by omega),List.getElem?_set_ne (by omega),List.getElem?_set_ne (by omega),List.getElem?_set_ne (by omega),List.getElem?_set_self (by simp;omega),Nat.sub_self];rfl
 by_cases h1:k=j*4+1
 . subst h1
   rw [if_pos (by omega),List.getElem?_set_ne (by omega),List.getElem?_set_ne (by omega),List.getElem?_set_self (by simp;omega),Nat.add_sub_cancel_left];rfl
 by_cases h2:k=j*4+2
 . subst h2
   rw [if_pos (by omega),List.getElem?_set_ne (by omega),List.getElem?_set_self (by simp;omega),Nat.add_sub_cancel_left];rfl
 by_cases h3:k=j*4+3
 . subst h3
   rw [if_pos (by omega),List.getElem?_set_self (by simp;omega),Nat.add_sub_cancel_left];rfl
 rw [if_neg (by omega),List.getElem?_set_ne (by omega),List.getElem?_set_ne (by omega),List.getElem?_set_ne (by omega),List.getElem?_set_ne (by omega)]
def wrB (n:Int) (x:Int×List Int):Bool:=inB x.1 0 (n-1)&&bN x.2
def bV (n:Int) (bs:List Int) (i:Nat):Bool:=inB (bs.getD i 0) 0 (n-1)&&(decide (i=0)||decide (bs.getD (i-1) 0<bs.getD i 0))
def el (n:Int) (bs:List Int):Bool:=(List.range bs.length).all (bV n bs)
def bJ (ss:List (List Int)) (cs:List (Int×List Int)) (bs:List Int):Bool:=
 ss.all bN&&(cs.all (wrB ss.length)&&(el ss.length bs&&(inB ss.length 1 20&&decide (cs.length<=60))))
theorem dz {α:Type} {p:α->Bool} {l:List α} {j:Nat} {x:α} (h:l[j]?=some x):(p x=true->(l.take j).all p=true->(l.take (j+1)).all p=true)/\(p x=false->l.all p=false):=by
 have hj:j<l.length:=(List.getElem?_eq_some_iff.1 h).1;have e:l[j]=x:=by rw [List.getElem?_eq_getElem hj] at h;simpa using h
 refine ⟨fun h1 h2=>?_,fun h1=>?_⟩
 . rw [List.take_succ_eq_append_getElem hj,List.all_append,h2,e]
   simp [h1]
 rw [List.all_eq_false];exact ⟨x,by rw [←e];exact List.getElem_mem hj,by simp [h1]⟩
theorem aJ (w:World) (E:TypeId) (a0 a1 a3:Option Addr) (n0 c0 n1 c1 n3 c3:Nat) (ss:List (List Int)) (cs:List (Int×List Int)) (f:Bool) (bs:List Int) (h0:aM.Rd w [.slice a0 n0 c0] ss) (h1:(aP E).Rd w [.slice a1 n1 c1] cs) (h3:aA.Rd w [.slice a3 n3 c3] bs) (hw:aB (ss,cs,f,bs)<=2097152):
 Calls Try.prog 83 #[.agg #[.slice a0 n0 c0,.slice a1 n1 c1,.bool f,.slice a3 n3 c3]] w fun e w'=>e=.returned (.bool (bJ ss cs bs))/\Below w.heap.size w w':=by
 obtain ⟨hl0,_,hm0⟩:=af h0;obtain ⟨hl1,_,hm1⟩:=af h1;obtain ⟨hl3,_,hm3⟩:=af h3;have hw0:aw ss<=2097152:=by unfold aB at hw;simp only at hw;omega
 have hw1:aq cs<=2097152:=by unfold aB at hw;simp only at hw;omega
 have hw3:n3<=2097152:=by unfold aB at hw;simp only at hw;omega
 have hn0:n0<=2097152:=by unfold aw at hw0;omega
 have hn1:n1<=2097152:=by unfold aq at hw1;omega
 have hA:Below w.heap.size w (w.alloc (.cells #[.slice a0 n0 c0,.slice a1 n1 c1,.bool f,.slice a3 n3 c3] 54)):=(Below.refl _ _).alloc (Nat.le_refl _) _;have hcell:∀j v,(#[Value.slice a0 n0 c0,.slice a1 n1 c1,.bool f,.slice a3 n3 c3])[j]?=some v->(w.alloc (.cells #[.slice a0 n0 c0,.slice a1 n1 c1,.bool f,.slice a3 n3 c3] 54)).cell? ⟨w.heap.size,j,none⟩=some v:=by
  intro j v hv;rw [cell_of_row _ w.heap.size j _ _ (0,0) (heap_alloc_new w _)];exact hv
 have k0:=hcell 0 _ rfl;have k1:=hcell 1 _ rfl;have k3:=hcell 3 _ rfl;have g0:=h0.below hA;have g1:=h1.below hA;have g3:=h3.below hA;have hz:w.heap.size<(w.alloc (.cells #[.slice a0 n0 c0,.slice a1 n1 c1,.bool f,.slice a3 n3 c3] 54)).heap.size:=by simp
 go_enter Try.func83,Try.ntmps83
 go_wp2
 generalize hW:w.alloc (.cells #[.slice a0 n0 c0,.slice a1 n1 c1,.bool f,.slice a3 n3 c3] 54)=W at hA k0 k1 k3 g0 g1 g3 hz ⊢;clear hW hcell h0 h1 h3;go_loopw [4] (fun i wr=>∃j:Nat,j<=n0/\i=.int .i64 j/\(ss.take j).all bN=true/\aG W wr) (fun i _=>n0-(intOf i).toNat)
 case atStart=>exact ⟨0,Nat.zero_le _,rfl,rfl,aG.refl _⟩
 obtain ⟨j,hj,rfl,ht,hs⟩:=hrel;have q0:=(hs.cell _).trans k0;by_cases hjn:j<n0
 . rcases cG rfl g0 with h0'|⟨b,off,rfl,hbl,hcs⟩
   . omega
   have hdj:ss[j]?=some (ss[j]'(by omega)):=List.getElem?_eq_getElem (by omega);generalize ss[j]'(by omega)=x at hdj;have hal:=dz (p:=bN) hdj;have hil:=cZ hdj;obtain ⟨v,hv,hrv⟩:=hcs j x hdj;obtain ⟨av,cv,rfl⟩:=ak hrv;have q1:=(hs.cell ⟨b,off+j,none⟩).trans hv;obtain ⟨r1,_,_,_⟩:=ap (hrv.same hs);have HT:=ab ht;clear hcs hdj hv hrv ht;by_cases hx:bN x=true
   . have HD:=ab (hal.1 hx HT.out)
     clear hal;go_wp2_with fail
     refine (bR _ _ _ _ x rfl r1 (by omega)).mono ?_
     rintro e w1 ⟨rfl,hs1⟩;go_wp2
     go_roundw
     case rel=>exact ⟨j+1,by omega,by go_num,HD.out,hs.trans hs1⟩
     case measure=>simp [intOf];omega
   have hx:bN x=false:=by simpa using hx
   have HN:=ab (hal.2 hx);clear hal;go_wp2_with fail
   refine (bR _ _ _ _ x rfl r1 (by omega)).mono ?_
   rintro e w1 ⟨rfl,hs1⟩;go_wp2
   go_ret
   exact ⟨ac (by unfold bJ;rw [HN.out];rfl),Below.andSame (Below.andSame hA hs) hs1⟩
 have e:j=n0:=by omega
 subst e;rw [List.take_of_length_le (by omega)] at ht;have HS0:=ab ht;have hss:ss.length=j:=hl0;clear ht hj hjn q0;go_wp2
 go_loopw [5] (fun i wr=>∃i2:Nat,i2<=n1/\i=.int .i64 i2/\(cs.take i2).all (wrB j)=true/\aG W wr) (fun i _=>n1-(intOf i).toNat)
 case atStart=>exact ⟨0,Nat.zero_le _,rfl,rfl,hs⟩
 clear hs;obtain ⟨i2,hi2,rfl,ht,hs⟩:=hrel;have q1:=(hs.cell _).trans k1;by_cases hin:i2<n1
 . rcases bf rfl g1 with h0'|⟨b,off,rfl,hbl,hcs⟩
   . omega
   have hdj:cs[i2]?=some (cs[i2]'(by omega)):=List.getElem?_eq_getElem (by omega);generalize cs[i2]'(by omega)=x at hdj;have hal:=dz (p:=wrB j) hdj;have hil:=bE hdj;obtain ⟨v0,v1,hv0,hv1,hrv⟩:=hcs i2 x hdj;obtain ⟨rfl,hrv'⟩:=bZ hrv;obtain ⟨av,cv,rfl⟩:=ak hrv';have p0:=(hs.cell ⟨b,off+i2*2,none⟩).trans hv0;have p1:=(hs.cell ⟨b,off+i2*2+1,none⟩).trans hv1;obtain ⟨r1,_,_,_⟩:=ap (hrv'.same hs);obtain ⟨x0,x1⟩:=x;simp only at p0 p1 r1 hil
   have HT:=ab ht;clear hcs hdj hv0 hv1 hrv hrv' ht;by_cases hI:inB x0 0 ((j:Int)-1)=true
   . by_cases hx:bN x1=true
     . have HD:=ab (hal.1 (by unfold wrB;simp only;rw [hI,hx];rfl) HT.out)
       clear hal;go_wp2_with fail
       refine (al _ _ _ _).mono ?_
       rintro e w1 ⟨rfl,hw1'⟩;subst w1;go_wp2_with fail
       refine (bR _ _ _ _ x1 rfl r1 (by omega)).mono ?_
       rintro e w2 ⟨rfl,hs2⟩;go_wp2
       go_roundw
       case rel=>exact ⟨i2+1,by omega,by go_num,HD.out,hs.trans hs2⟩
       case measure=>simp [intOf];omega
     have hx:bN x1=false:=by simpa using hx
     have HN:=ab (hal.2 (by unfold wrB;simp only;rw [hI,hx];rfl));clear hal;go_wp2_with fail
     refine (al _ _ _ _).mono ?_
     rintro e w1 ⟨rfl,hw1'⟩;subst w1;go_wp2_with fail
     refine (bR _ _ _ _ x1 rfl r1 (by omega)).mono ?_
     rintro e w2 ⟨rfl,hs2⟩;go_wp2
     go_ret
     exact ⟨ac (by unfold bJ;rw [hss,HN.out,HS0.out];rfl),Below.andSame (Below.andSame hA hs) hs2⟩
   have hI:inB x0 0 ((j:Int)-1)=false:=by simpa using hI
   have HN:=ab (hal.2 (by unfold wrB;simp only;rw [hI];rfl));clear hal;go_wp2_with fail
   refine (al _ _ _ _).mono ?_
   rintro e w1 ⟨rfl,hw1'⟩;subst w1;go_wp2
   go_ret
   exact ⟨ac (by unfold bJ;rw [hss,HN.out,HS0.out];rfl),Below.andSame hA hs⟩
 have e2:i2=n1:=by omega
 subst e2;rw [List.take_of_length_le (by omega)] at ht;have HS1:=ab ht;have hcsl:cs.length=i2:=hl1;clear ht hi2 hin;go_wp2
 go_loopw [6] (fun i wr=>∃i3:Nat,i3<=n3/\i=.int .i64 i3/\(List.range i3).all (bV j bs)=true/\aG W wr) (fun i _=>n3-(intOf i).toNat)
 case atStart=>exact ⟨0,Nat.zero_le _,rfl,rfl,hs⟩
 clear hs;obtain ⟨i3,hi3,rfl,ht,hs⟩:=hrel;have q3:=(hs.cell _).trans k3;by_cases hi3n:i3<n3
 . obtain ⟨R3,_,_,_⟩:=ap g3
   rcases R3.cases with h0'|⟨b,off,rfl,hbl,hcs⟩
   . omega
   have p0:=(hs.cell ⟨b,off+i3,none⟩).trans (hcs i3 (by omega));have HT:=ab ht;have hrs:(List.range (i3+1)).all (bV j bs)=((List.range i3).all (bV j bs)&&bV j bs i3):=by rw [List.range_succ,List.all_append];simp
   have hrn:bV j bs i3=false->el j bs=false:=by
    intro h;unfold el;rw [List.all_eq_false];exact ⟨i3,by simp;omega,by simp [h]⟩
   have hbd:bV j bs i3=(inB (bs.getD i3 0) 0 ((j:Int)-1)&&(decide (i3=0)||decide (bs.getD (i3-1) 0<bs.getD i3 0))):=rfl;have i1:(0:Int)<=(i3:Int):=by omega
   have i2':(i3:Int)<(n3:Int):=by omega
   have gw:IntKind.i64.wrap ((j:Int)-1)=(j:Int)-1:=IntWalk.i64_in _ (by omega);by_cases hI:inB (bs.getD i3 0) 0 ((j:Int)-1)=true
   . by_cases hz3:i3=0
     . have HD:Hid ((List.range (i3+1)).all (bV j bs)=true):=by unfold Hid;rw [hrs,HT.out,hbd,hI,decide_eq_true hz3];rfl
       generalize bs.getD i3 0=y at p0 hI;have d0:decide ((0:Int)<(i3:Int))=false:=decide_eq_false (by omega);have d0b:decide (0<i3)=false:=decide_eq_false (by omega);have HZ:=ab hz3;clear hcs ht hrs hrn hbd hz3 R3;go_wp2_with fail
       go_quiet ((go_at_call 27;exact Calls.quiet_of_same (al _ _ _ _)))
       go_wp2
       go_roundw
       case rel=>exact ⟨i3+1,by omega,by go_num,HD.out,hs.drewN _⟩
       case measure=>simp [intOf];omega
     have p1:=(hs.cell ⟨b,off+(i3-1),none⟩).trans (hcs (i3-1) (by omega));have d0:decide ((0:Int)<(i3:Int))=true:=decide_eq_true (by omega);have d0b:decide (0<i3)=true:=decide_eq_true (by omega);have gv:IntKind.i64.wrap ((i3:Int)-1)=(i3:Int)-1:=IntWalk.i64_in _ (by omega);have gt:((i3:Int)-1).toNat=i3-1:=by omega
     have i3a:(0:Int)<=(i3:Int)-1:=by omega
     have i3b:(i3:Int)-1<(n3:Int):=by omega
     by_cases hlt:bs.getD (i3-1) 0<bs.getD i3 0
     . have HD:Hid ((List.range (i3+1)).all (bV j bs)=true):=by unfold Hid;rw [hrs,HT.out,hbd,hI,decide_eq_true hlt];simp
       generalize bs.getD i3 0=y at p0 hI hlt;generalize bs.getD (i3-1) 0=z at p1 hlt;have d1:¬y<=z:=by omega
       clear hcs ht hrs hrn hbd hz3 R3;go_wp2_with fail
       go_quiet ((go_at_call 27;exact Calls.quiet_of_same (al _ _ _ _)))
       go_wp2
       go_roundw
       case rel=>exact ⟨i3+1,by omega,by go_num,HD.out,hs.drewN _⟩
       case measure=>simp [intOf];omega
     have HN:=ab (hrn (by rw [hbd,hI,decide_eq_false hz3,decide_eq_false hlt];rfl));generalize bs.getD i3 0=y at p0 hI hlt;generalize bs.getD (i3-1) 0=z at p1 hlt;have d1:y<=z:=by omega
     clear hcs ht hrs hrn hbd hz3 R3;go_wp2_with fail
     go_quiet ((go_at_call 27;exact Calls.quiet_of_same (al _ _ _ _)))
     go_wp2
     go_ret
     exact ⟨ac (by unfold bJ;rw [hss,HN.out,HS1.out,HS0.out];rfl),Below.andSame hA (hs.drewN _)⟩
   have hI:inB (bs.getD i3 0) 0 ((j:Int)-1)=false:=by simpa using hI
   have HN:=ab (hrn (by rw [hbd,hI];rfl));generalize bs.getD i3 0=y at p0 hI;clear hcs ht hrs hrn hbd R3;go_wp2_with fail
   go_quiet ((go_at_call 27;exact Calls.quiet_of_same (al _ _ _ _)))
   go_wp2
   go_ret
   exact ⟨ac (by unfold bJ;rw [hss,HN.out,HS1.out,HS0.out];rfl),Below.andSame hA (hs.drewN _)⟩
 have e3:i3=n3:=by omega
 have HB:Hid (el j bs=true):=by unfold Hid el;rw [hl3,←e3];exact ht
 clear ht hi3;have q1:=(hs.cell _).trans k1;by_cases hI:inB (j:Int) 1 20=true
 . by_cases h60:(i2:Int)<=60
   . have h60':i2<=60:=by omega
     have H60:=ab (decide_eq_true h60');clear h60';go_wp2_with fail
     refine (al _ _ _ _).mono ?_
     rintro e w1 ⟨rfl,hw1'⟩;subst w1;go_wp2
     go_ret
     exact ⟨ac (by unfold bJ;rw [hss,hcsl,HB.out,HS1.out,HS0.out,hI,H60.out];rfl),Below.andSame hA hs⟩
   have h60':¬i2<=60:=by omega
   have H60:=ab (decide_eq_false h60');clear h60';go_wp2_with fail
   refine (al _ _ _ _).mono ?_
   rintro e w1 ⟨rfl,hw1'⟩;subst w1;go_wp2
   go_ret
   exact ⟨ac (by unfold bJ;rw [hss,hcsl,HB.out,HS1.out,HS0.out,hI,H60.out,decide_eq_false (by omega)];rfl),Below.andSame hA hs⟩
 have hI:inB (j:Int) 1 20=false:=by simpa using hI
 go_wp2_with fail
 refine (al _ _ _ _).mono ?_
 rintro e w1 ⟨rfl,hw1'⟩;subst w1;go_wp2
 go_ret
 exact ⟨ac (by unfold bJ;rw [hss,HB.out,HS1.out,HS0.out,hI];rfl),Below.andSame hA hs⟩
theorem bh (w:World) (a0:Option Addr) (n0 c0:Nat) (v1 v2 v3:Value) (x:Int):
 Calls Try.prog 101 #[.agg #[.slice a0 n0 c0,v1,v2,v3],.int .i64 x] w fun e w'=>e=.returned (.bool (inB x 0 ((n0:Int)-1)))/\Below w.heap.size w w':=by
 have hA:Below w.heap.size w (w.alloc (.cells #[.slice a0 n0 c0,v1,v2,v3] 54)):=(Below.refl _ _).alloc (Nat.le_refl _) _;have hcell:(w.alloc (.cells #[.slice a0 n0 c0,v1,v2,v3] 54)).cell? ⟨w.heap.size,0,none⟩=some (.slice a0 n0 c0):=by
  rw [cell_of_row _ w.heap.size 0 _ _ (0,0) (heap_alloc_new w _)];rfl
 by_cases h0:0<=x
 . by_cases h1:x<(n0:Int)
   . go_enter Try.func101,Try.ntmps101
     go_wp2
     go_ret
     exact ⟨ac (by symm;unfold inB;simp;omega),hA⟩
   go_enter Try.func101,Try.ntmps101
   go_wp2
   go_ret
   exact ⟨ac (by symm;unfold inB;simp;omega),hA⟩
 go_enter Try.func101,Try.ntmps101
 go_wp2
 go_ret
 exact ⟨ac (by symm;unfold inB;simp;omega),hA⟩
theorem gz (w:World) (a0:Option Addr) (n0 c0:Nat) (v1 v2:Value) (a3:Option Addr) (n3 c3:Nat) (bs:List Int) (h3:aA.Rd w [.slice a3 n3 c3] bs):
 Calls Try.prog 102 #[.agg #[.slice a0 n0 c0,v1,v2,.slice a3 n3 c3]] w fun e w'=>e=.returned (.bool (el n0 bs))/\Below w.heap.size w w':=by
 obtain ⟨hl3,_,hm3⟩:=af h3;have hA:Below w.heap.size w (w.alloc (.cells #[.slice a0 n0 c0,v1,v2,.slice a3 n3 c3] 54)):=(Below.refl _ _).alloc (Nat.le_refl _) _;have hcell:∀j v,(#[Value.slice a0 n0 c0,v1,v2,.slice a3 n3 c3])[j]?=some v->(w.alloc (.cells #[.slice a0 n0 c0,v1,v2,.slice a3 n3 c3] 54)).cell? ⟨w.heap.size,j,none⟩=some v:=by
  intro j v hv;rw [cell_of_row _ w.heap.size j _ _ (0,0) (heap_alloc_new w _)];exact hv
 have k0:=hcell 0 _ rfl;have k1:=hcell 1 _ rfl;have k2:=hcell 2 _ rfl;have k3:=hcell 3 _ rfl;have g3:=h3.below hA;have hz:w.heap.size<(w.alloc (.cells #[.slice a0 n0 c0,v1,v2,.slice a3 n3 c3] 54)).heap.size:=by simp
 go_enter Try.func102,Try.ntmps102
 go_wp2
 generalize hW:w.alloc (.cells #[.slice a0 n0 c0,v1,v2,.slice a3 n3 c3] 54)=W at hA k0 k1 k2 k3 g3 hz ⊢;clear hW hcell h3;go_loopw [8] (fun i wr=>∃i3:Nat,i3<=n3/\i=.int .i64 i3/\(List.range i3).all (bV n0 bs)=true/\Below W.heap.size W wr) (fun i _=>n3-(intOf i).toNat)
 case atStart=>exact ⟨0,Nat.zero_le _,rfl,rfl,Below.refl _ _⟩
 obtain ⟨i3,hi3,rfl,ht,hs⟩:=hrel;have q0:=(hs.cell (p:=⟨w.heap.size,0,none⟩) hz).trans k0;have q1:=(hs.cell (p:=⟨w.heap.size,1,none⟩) hz).trans k1;have q2:=(hs.cell (p:=⟨w.heap.size,2,none⟩) hz).trans k2;have q3:=(hs.cell (p:=⟨w.heap.size,3,none⟩) hz).trans k3;have hzr:w.heap.size<wr.heap.size:=Nat.lt_of_lt_of_le hz hs.size;by_cases hi3n:i3<n3
 . obtain ⟨R3,_,_,_⟩:=ap g3
   rcases R3.cases with h0'|⟨b,off,rfl,hbl,hcs⟩
   . omega
   have hbr:b<wr.heap.size:=Nat.lt_of_lt_of_le hbl hs.size;have p0:=(hs.cell (p:=⟨b,off+i3,none⟩) hbl).trans (hcs i3 (by omega));have HT:=ab ht;have hrs:(List.range (i3+1)).all (bV n0 bs)=((List.range i3).all (bV n0 bs)&&bV n0 bs i3):=by rw [List.range_succ,List.all_append];simp
   have hrn:bV n0 bs i3=false->el n0 bs=false:=by
    intro h;unfold el;rw [List.all_eq_false];exact ⟨i3,by simp;omega,by simp [h]⟩
   have hbd:bV n0 bs i3=(inB (bs.getD i3 0) 0 ((n0:Int)-1)&&(decide (i3=0)||decide (bs.getD (i3-1) 0<bs.getD i3 0))):=rfl;have i1:(0:Int)<=(i3:Int):=by omega
   have i2':(i3:Int)<(n3:Int):=by omega
   by_cases hI:inB (bs.getD i3 0) 0 ((n0:Int)-1)=true
   . by_cases hz3:i3=0
     . have HD:Hid ((List.range (i3+1)).all (bV n0 bs)=true):=by unfold Hid;rw [hrs,HT.out,hbd,hI,decide_eq_true hz3];rfl
       generalize bs.getD i3 0=y at p0 hI;have d0:decide ((0:Int)<(i3:Int))=false:=decide_eq_false (by omega);have d0b:decide (0<i3)=false:=decide_eq_false (by omega);have HZ:=ab hz3;clear hcs ht hrs hrn hbd hz3 R3;go_wp2_with fail
       refine (bh _ _ _ _ _ _ _ _).mono ?_
       rintro e w5 ⟨rfl,hb5'⟩;have r0:=(hb5'.cell (p:=⟨w.heap.size,0,none⟩) hzr).trans q0;have r1:=(hb5'.cell (p:=⟨w.heap.size,1,none⟩) hzr).trans q1;have r2:=(hb5'.cell (p:=⟨w.heap.size,2,none⟩) hzr).trans q2;have r3:=(hb5'.cell (p:=⟨w.heap.size,3,none⟩) hzr).trans q3;have hs5:=hs.trans (hb5'.mono hs.size);clear q0 q1 q2 q3 hb5';go_wp2
       go_roundw
       case rel=>exact ⟨i3+1,by omega,by go_num,HD.out,hs5⟩
       case measure=>simp [intOf];omega
     have p1:=(hs.cell (p:=⟨b,off+(i3-1),none⟩) hbl).trans (hcs (i3-1) (by omega));have d0:decide ((0:Int)<(i3:Int))=true:=decide_eq_true (by omega);have d0b:decide (0<i3)=true:=decide_eq_true (by omega);have gv:IntKind.i64.wrap ((i3:Int)-1)=(i3:Int)-1:=IntWalk.i64_in _ (by omega);have gt:((i3:Int)-1).toNat=i3-1:=by omega
     have i3a:(0:Int)<=(i3:Int)-1:=by omega
     have i3b:(i3:Int)-1<(n3:Int):=by omega
     by_cases hlt:bs.getD (i3-1) 0<bs.getD i3 0
     . have HD:Hid ((List.range (i3+1)).all (bV n0 bs)=true):=by unfold Hid;rw [hrs,HT.out,hbd,hI,decide_eq_true hlt];simp
       generalize bs.getD i3 0=y at p0 hI hlt;generalize bs.getD (i3-1) 0=z at p1 hlt;have d1:¬y<=z:=by omega
       clear hcs ht hrs hrn hbd hz3 R3;go_wp2_with fail
       refine (bh _ _ _ _ _ _ _ _).mono ?_
       rintro e w5 ⟨rfl,hb5'⟩;have r0:=(hb5'.cell (p:=⟨w.heap.size,0,none⟩) hzr).trans q0;have r1:=(hb5'.cell (p:=⟨w.heap.size,1,none⟩) hzr).trans q1;have r2:=(hb5'.cell (p:=⟨w.heap.size,2,none⟩) hzr).trans q2;have r3:=(hb5'.cell (p:=⟨w.heap.size,3,none⟩) hzr).trans q3;have p2:=(hb5'.cell (p:=⟨b,off+(i3-1),none⟩) hbr).trans p1;have hs5:=hs.trans (hb5'.mono hs.size);clear q0 q1 q2 q3 hb5';go_wp2
       go_roundw
       case rel=>exact ⟨i3+1,by omega,by go_num,HD.out,hs5⟩
       case measure=>simp [intOf];omega
     have HN:=ab (hrn (by rw [hbd,hI,decide_eq_false hz3,decide_eq_false hlt];rfl));generalize bs.getD i3 0=y at p0 hI hlt;generalize bs.getD (i3-1) 0=z at p1 hlt;have d1:y<=z:=by omega
     clear hcs ht hrs hrn hbd hz3 R3;go_wp2_with fail
     refine (bh _ _ _ _ _ _ _ _).mono ?_
     rintro e w5 ⟨rfl,hb5'⟩;have r0:=(hb5'.cell (p:=⟨w.heap.size,0,none⟩) hzr).trans q0;have r1:=(hb5'.cell (p:=⟨w.heap.size,1,none⟩) hzr).trans q1;have r2:=(hb5'.cell (p:=⟨w.heap.size,2,none⟩) hzr).trans q2;have r3:=(hb5'.cell (p:=⟨w.heap.size,3,none⟩) hzr).trans q3;have p2:=(hb5'.cell (p:=⟨b,off+(i3-1),none⟩) hbr).trans p1;have hs5:=hs.trans (hb5'.mono hs.size);clear q0 q1 q2 q3 hb5';go_wp2
     go_ret
     exact ⟨ac HN.out.symm,Below.andThen hA hs5⟩
   have hI:inB (bs.getD i3 0) 0 ((n0:Int)-1)=false:=by simpa using hI
   have HN:=ab (hrn (by rw [hbd,hI];rfl));generalize bs.getD i3 0=y at p0 hI;clear hcs ht hrs hrn hbd R3;go_wp2_with fail
   refine (bh _ _ _ _ _ _ _ _).mono ?_
   rintro e w5 ⟨rfl,hb5'⟩;have r0:=(hb5'.cell (p:=⟨w.heap.size,0,none⟩) hzr).trans q0;have r1:=(hb5'.cell (p:=⟨w.heap.size,1,none⟩) hzr).trans q1;have r2:=(hb5'.cell (p:=⟨w.heap.size,2,none⟩) hzr).trans q2;have r3:=(hb5'.cell (p:=⟨w.heap.size,3,none⟩) hzr).trans q3;have hs5:=hs.trans (hb5'.mono hs.size);clear q0 q1 q2 q3 hb5';go_wp2
   go_ret
   exact ⟨ac HN.out.symm,Below.andThen hA hs5⟩
 have e3:i3=n3:=by omega
 have HB:Hid (el n0 bs=true):=by unfold Hid el;rw [hl3,←e3];exact ht
 clear ht hi3;go_wp2
 go_ret
 exact ⟨ac HB.out.symm,Below.andThen hA hs⟩
theorem aK (w:World) (E:TypeId) (a0 a1 a3:Option Addr) (n0 c0 n1 c1 n3 c3:Nat) (ss:List (List Int)) (cs:List (Int×List Int)) (f:Bool) (bs:List Int) (h0:aM.Rd w [.slice a0 n0 c0] ss) (h1:(aP E).Rd w [.slice a1 n1 c1] cs) (h3:aA.Rd w [.slice a3 n3 c3] bs) (hw:aB (ss,cs,f,bs)<=2097152):
 Calls Try.prog 88 #[.agg #[.slice a0 n0 c0,.slice a1 n1 c1,.bool f,.slice a3 n3 c3]] w fun e w'=>e=.returned (.bool (bJ ss cs bs))/\Below w.heap.size w w':=by
 obtain ⟨hl0,_,hm0⟩:=af h0;obtain ⟨hl1,_,hm1⟩:=af h1;obtain ⟨hl3,_,hm3⟩:=af h3;have hw0:aw ss<=2097152:=by unfold aB at hw;simp only at hw;omega
 have hw1:aq cs<=2097152:=by unfold aB at hw;simp only at hw;omega
 have hA:Below w.heap.size w (w.alloc (.cells #[.slice a0 n0 c0,.slice a1 n1 c1,.bool f,.slice a3 n3 c3] 54)):=(Below.refl _ _).alloc (Nat.le_refl _) _;have hcell:∀j v,(#[Value.slice a0 n0 c0,.slice a1 n1 c1,.bool f,.slice a3 n3 c3])[j]?=some v->(w.alloc (.cells #[.slice a0 n0 c0,.slice a1 n1 c1,.bool f,.slice a3 n3 c3] 54)).cell? ⟨w.heap.size,j,none⟩=some v:=by
  intro j v hv;rw [cell_of_row _ w.heap.size j _ _ (0,0) (heap_alloc_new w _)];exact hv
 have k0:=hcell 0 _ rfl;have k1:=hcell 1 _ rfl;have k2:=hcell 2 _ rfl;have k3:=hcell 3 _ rfl;have g0:=h0.below hA;have g1:=h1.below hA;have g3:=h3.below hA;have hz:w.heap.size<(w.alloc (.cells #[.slice a0 n0 c0,.slice a1 n1 c1,.bool f,.slice a3 n3 c3] 54)).heap.size:=by simp
 by_cases c1':(1:Int)<=(n0:Int)
 . by_cases c2':(n0:Int)<=20
   . by_cases c3':(n1:Int)<=60
     . have hI0:inB (ss.length:Int) 1 20=true:=by unfold inB;rw [hl0];simp;omega
       have hI1:decide (cs.length<=60)=true:=decide_eq_true (by omega);have HI0:=ab hI0;have HI1:=ab hI1;clear hI0 hI1;go_enter Try.func88,Try.ntmps88
       go_wp2
       generalize hW:w.alloc (.cells #[.slice a0 n0 c0,.slice a1 n1 c1,.bool f,.slice a3 n3 c3] 54)=W at hA k0 k1 k2 k3 g0 g1 g3 hz ⊢;clear hW hcell h0 h1 h3;go_loopw [26] (fun i wr=>∃j:Nat,j<=n0/\i=.int .i64 j/\(ss.take j).all bN=true/\aG W wr) (fun i _=>n0-(intOf i).toNat)
       case atStart=>exact ⟨0,Nat.zero_le _,rfl,rfl,aG.refl _⟩
       obtain ⟨j,hj,rfl,ht,hs⟩:=hrel;by_cases hjn:j<n0
       . rcases cG rfl g0 with h0'|⟨b,off,rfl,hbl,hcs⟩
         . omega
         have hdj:ss[j]?=some (ss[j]'(by omega)):=List.getElem?_eq_getElem (by omega);generalize ss[j]'(by omega)=x at hdj;have hal:=dz (p:=bN) hdj;have hil:=cZ hdj;obtain ⟨v,hv,hrv⟩:=hcs j x hdj;obtain ⟨av,cv,rfl⟩:=ak hrv;have q1:=(hs.cell ⟨b,off+j,none⟩).trans hv;obtain ⟨r1,_,_,_⟩:=ap (hrv.same hs);have HT:=ab ht;clear hcs hdj hv hrv ht;by_cases hx:bN x=true
         . have HD:=ab (hal.1 hx HT.out)
           clear hal;go_wp2_with fail
           refine (aZ _ _ _ _ x rfl r1 (by omega)).mono ?_
           rintro e w1 ⟨rfl,hs1⟩;go_wp2
           go_roundw
           case rel=>exact ⟨j+1,by omega,by go_num,HD.out,hs.trans hs1⟩
           case measure=>simp [intOf];omega
         have hx:bN x=false:=by simpa using hx
         have HN:=ab (hal.2 hx);clear hal;go_wp2_with fail
         refine (aZ _ _ _ _ x rfl r1 (by omega)).mono ?_
         rintro e w1 ⟨rfl,hs1⟩;go_wp2
         go_ret
         exact ⟨ac (by unfold bJ;rw [HN.out];rfl),Below.andSame (Below.andSame hA hs) hs1⟩
       have e:j=n0:=by omega
       subst e;rw [List.take_of_length_le (by omega)] at ht;have HS0:=ab ht;have hss:ss.length=j:=hl0;have q1:=(hs.cell _).trans k1;clear ht hj hjn;go_wp2
       clear q1;go_loopw [37] (fun i wr=>∃i2:Nat,i2<=n1/\i=.int .i64 i2/\(cs.take i2).all (wrB j)=true/\Below W.heap.size W wr) (fun i _=>n1-(intOf i).toNat)
       case atStart=>exact ⟨0,Nat.zero_le _,rfl,rfl,hs.below _⟩
       clear hs;obtain ⟨i2,hi2,rfl,ht,hs⟩:=hrel;have hzr:w.heap.size<wr.heap.size:=Nat.lt_of_lt_of_le hz hs.size;have q0:=(hs.cell (p:=⟨w.heap.size,0,none⟩) hz).trans k0;have q1:=(hs.cell (p:=⟨w.heap.size,1,none⟩) hz).trans k1;have q2:=(hs.cell (p:=⟨w.heap.size,2,none⟩) hz).trans k2;have q3:=(hs.cell (p:=⟨w.heap.size,3,none⟩) hz).trans k3;by_cases hin:i2<n1
       . rcases bf rfl g1 with h0'|⟨b,off,rfl,hbl,hcs⟩
         . omega
         have hdj:cs[i2]?=some (cs[i2]'(by omega)):=List.getElem?_eq_getElem (by omega);generalize cs[i2]'(by omega)=x at hdj;have hal:=dz (p:=wrB j) hdj;have hil:=bE hdj;obtain ⟨v0,v1,hv0,hv1,hrv⟩:=hcs i2 x hdj;obtain ⟨rfl,hrv'⟩:=bZ hrv;obtain ⟨av,cv,rfl⟩:=ak hrv';have p0:=(hs.cell (p:=⟨b,off+i2*2,none⟩) hbl).trans hv0;have p1:=(hs.cell (p:=⟨b,off+i2*2+1,none⟩) hbl).trans hv1;have r0:=hrv'.below hs;obtain ⟨x0,x1⟩:=x;simp only at p0 p1 r0 hil
         have HT:=ab ht;clear hcs hdj hv0 hv1 hrv hrv' ht;have hB:Below wr.heap.size wr (wr.alloc (.cells #[.int .i64 x0,.slice av x1.length cv] 114)):=(Below.refl _ _).alloc (Nat.le_refl _) _;have s0:(wr.alloc (.cells #[.int .i64 x0,.slice av x1.length cv] 114)).cell? ⟨wr.heap.size,1,none⟩=some (.slice av x1.length cv):=by
          rw [cell_of_row _ wr.heap.size 1 _ _ (0,0) (heap_alloc_new wr _)];rfl
         have zb:wr.heap.size<(wr.alloc (.cells #[.int .i64 x0,.slice av x1.length cv] 114)).heap.size:=by simp
         have HB:=ab hB;have S0:=ab s0;have ZB:=ab zb;clear hB s0 zb;by_cases hI:inB x0 0 ((j:Int)-1)=true
         . by_cases hx:bN x1=true
           . have HD:=ab (hal.1 (by unfold wrB;simp only;rw [hI,hx];rfl) HT.out)
             clear hal;go_wp2_with fail
             refine (bh _ _ _ _ _ _ _ _).mono ?_
             rintro e w5 ⟨rfl,hb5⟩;have HB6:=ab (Below.andThen HB.out hb5);have s1:=(hb5.cell (p:=⟨wr.heap.size,1,none⟩) ZB.out).trans S0.out;clear hb5;go_wp2_with fail
             refine (aZ _ _ _ _ x1 rfl (ap (r0.below HB6.out)).1 (by omega)).mono ?_
             rintro e w6 ⟨rfl,hs6⟩;go_wp2
             go_roundw
             case rel=>exact ⟨i2+1,by omega,by go_num,HD.out,(hs.trans (HB6.out.mono hs.size)).trans (hs6.below _)⟩
             case measure=>simp [intOf];omega
           have hx:bN x1=false:=by simpa using hx
           have HN:=ab (hal.2 (by unfold wrB;simp only;rw [hI,hx];rfl));clear hal;go_wp2_with fail
           refine (bh _ _ _ _ _ _ _ _).mono ?_
           rintro e w5 ⟨rfl,hb5⟩;have HB6:=ab (Below.andThen HB.out hb5);have s1:=(hb5.cell (p:=⟨wr.heap.size,1,none⟩) ZB.out).trans S0.out;clear hb5;go_wp2_with fail
           refine (aZ _ _ _ _ x1 rfl (ap (r0.below HB6.out)).1 (by omega)).mono ?_
           rintro e w6 ⟨rfl,hs6⟩;go_wp2
           go_ret
           exact ⟨ac (by unfold bJ;rw [hss,HN.out,HS0.out];rfl),Below.andSame (Below.andThen hA (hs.trans (HB6.out.mono hs.size))) hs6⟩
         have hI:inB x0 0 ((j:Int)-1)=false:=by simpa using hI
         have HN:=ab (hal.2 (by unfold wrB;simp only;rw [hI];rfl));clear hal;go_wp2_with fail
         refine (bh _ _ _ _ _ _ _ _).mono ?_
         rintro e w5 ⟨rfl,hb5⟩;have HB6:=ab (Below.andThen HB.out hb5);clear hb5;go_wp2
         go_ret
         exact ⟨ac (by unfold bJ;rw [hss,HN.out,HS0.out];rfl),Below.andThen hA (hs.trans (HB6.out.mono hs.size))⟩
       have e2:i2=n1:=by omega
       subst e2;rw [List.take_of_length_le (by omega)] at ht;have HS1:=ab ht;clear ht hi2 hin;have g3':=g3.below hs;go_wp2_with fail
       refine (gz _ _ _ _ _ _ _ _ _ bs g3').mono ?_
       rintro e w5 ⟨rfl,hb5⟩;go_wp2
       go_ret
       exact ⟨ac (by unfold bJ;rw [HI0.out,HI1.out,hss,HS1.out,HS0.out];simp),Below.andThen (Below.andThen hA hs) hb5⟩
     have hI1:decide (cs.length<=60)=false:=decide_eq_false (by omega);have HI1:=ab hI1;clear hI1;go_enter Try.func88,Try.ntmps88
     go_wp2
     go_ret
     exact ⟨ac (by unfold bJ;rw [HI1.out];simp),hA⟩
   have hI0:inB (ss.length:Int) 1 20=false:=by unfold inB;rw [hl0];simp;omega
   have HI0:=ab hI0;clear hI0;go_enter Try.func88,Try.ntmps88
   go_wp2
   go_ret
   exact ⟨ac (by unfold bJ;rw [HI0.out];simp),hA⟩
 have hI0:inB (ss.length:Int) 1 20=false:=by unfold inB;rw [hl0];simp;omega
 have HI0:=ab hI0;clear hI0;go_enter Try.func88,Try.ntmps88
 go_wp2
 go_ret
 exact ⟨ac (by unfold bJ;rw [HI0.out];simp),hA⟩
end Go.Proofs.Ytfimpohbpccjaaa
