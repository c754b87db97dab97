/-
 A Super is eight numbers; both looks whether it is right (the program's and the specification's) answer as the definition here says. No condition.
-/
import Derived.Test.YtfimpohbpccjaaaGreatRowGetBlockSq2
import Derived.Test.YtfimpohbpccjaaaGreatRowGetBlockSq1

set_option maxRecDepth 100000
set_option maxHeartbeats 8000000
set_option linter.unusedSimpArgs false

namespace Go.Proofs.YtfimpohbpccjaaaGreat
open Go.RowKit

theorem bS {t:Ty} {E:TypeId} {w:World} {a:Option Addr} {n cap:Nat} {d:List t.D} (ht:t.n=4) (h:(bF t E).Rd w [.slice a n cap] d):
 n=0∨∃b off,a=some ⟨b,off,none⟩/\b<w.heap.size/\∀i x,d[i]?=some x->∃v0 v1 v2 v3,w.cell? ⟨b,off+i*4,none⟩=some v0/\w.cell? ⟨b,off+i*4+1,none⟩=some v1/\w.cell? ⟨b,off+i*4+2,none⟩=some v2/\w.cell? ⟨b,off+i*4+3,none⟩=some v3/\t.Rd w [v0,v1,v2,v3] x:=by
 obtain ⟨fp,a',cap',hv,h2,h3,h4⟩:=h;simp only [List.cons.injEq,Value.slice.injEq,and_true] at hv
 obtain ⟨rfl,rfl,rfl⟩:=hv;rcases h4 with ⟨h5,_⟩|⟨b,off,fps,h5,h6,_,_,h9⟩
 . exact .inl h5
 refine .inr ⟨b,off,h5,h6,fun i x hx=>?_⟩
 obtain ⟨f,cs,_,hrd,hc⟩:=h9 i x hx;have hl:=t.rdLen hrd;rw [ht] at hl;match cs,hl with
 | [v0,v1,v2,v3],_=>
  refine ⟨v0,v1,v2,v3,?_,?_,?_,?_,f,hrd⟩
  . have:=hc 0 (by omega)
    rw [ht,Nat.add_zero] at this;exact this
  . have:=hc 1 (by omega)
    rw [ht,←Nat.add_assoc] at this;exact this
  . have:=hc 2 (by omega)
    rw [ht,←Nat.add_assoc] at this;exact this
  have:=hc 3 (by omega);rw [ht,←Nat.add_assoc] at this;exact this
theorem gi {t:Ty} {E:TypeId} {w:World} {lo hi lo' hi' g n cap j:Nat} {d:List t.D} {v0 v1 v2 v3:Value} {x:t.D} (ht:t.n=4) (h:(bF t E).Own w lo hi [.slice (some ⟨g,0,none⟩) n cap] d)
 (hj:j<n) (hx:t.Own w lo' hi' [v0,v1,v2,v3] x) (hlo:hi<=lo') (hle:hi<=hi'):
 (∀q,q<4->∃old,w.cell? ⟨g,j*4+q,none⟩=some old)/\(∀q,w.frozen? ⟨g,q,none⟩=false) /\
  (bF t E).Own ((((w.setCell ⟨g,j*4,none⟩ v0).setCell ⟨g,j*4+1,none⟩ v1).setCell ⟨g,j*4+2,none⟩ v2).setCell ⟨g,j*4+3,none⟩ v3) lo hi' [.slice (some ⟨g,0,none⟩) n cap] (d.set j x) /\
  But lo hi w ((((w.setCell ⟨g,j*4,none⟩ v0).setCell ⟨g,j*4+1,none⟩ v1).setCell ⟨g,j*4+2,none⟩ v2).setCell ⟨g,j*4+3,none⟩ v3):=by
 obtain ⟨cur,hc,hcs,hnc,_,_⟩:=eZ h;rw [ht] at hcs;refine ⟨fun q hq=>⟨cur[j*4+q]'(by omega),?_⟩,fun q=>frozen_of_row w g _ cur E hc,?_⟩
 . rw [cell_of_row w g _ cur E (0,0) hc,Array.getElem?_eq_getElem]
 refine eY h hj hx hlo hle rfl rfl rfl (by simp) (fun b hb=>?_) (fun cur2 hc2 _=>?_)
 . rw [Below.heap_setCell _ _ _ _ hb,Below.heap_setCell _ _ _ _ hb,Below.heap_setCell _ _ _ _ hb,Below.heap_setCell _ _ _ _ hb]
 rw [hc] at hc2;simp at hc2
 subst hc2;refine ⟨(((cur.setIfInBounds (j*4) v0).setIfInBounds (j*4+1) v1).setIfInBounds (j*4+2) v2).setIfInBounds (j*4+3) v3,heap_setCell_same _ g _ _ E v3 (heap_setCell_same _ g _ _ E v2 (heap_setCell_same _ g _ _ E v1 (heap_setCell_same w g _ cur E v0 hc))),by simp,fun k=>?_⟩
 rw [ht,Array.toList_setIfInBounds,Array.toList_setIfInBounds,Array.toList_setIfInBounds,Array.toList_setIfInBounds];by_cases h0:k=j*4
 . subst h0
   rw [if_pos (by omega),List.getElem?_set_ne (by omega),List.getElem?_set_ne (by omega),List.getElem?_set_ne (by omega),List.getElem?_set_self (by simp;omega),Nat.sub_self];rfl
 by_cases h1:k=j*4+1
 . subst h1
   rw [if_pos (by omega),List.getElem?_set_ne (by omega),List.getElem?_set_ne (by omega),List.getElem?_set_self (by simp;omega),Nat.add_sub_cancel_left];rfl
 by_cases h2:k=j*4+2
 . subst h2
   rw [if_pos (by omega),List.getElem?_set_ne (by omega),List.getElem?_set_self (by simp;omega),Nat.add_sub_cancel_left];rfl
 by_cases h3:k=j*4+3
 . subst h3
   rw [if_pos (by omega),List.getElem?_set_self (by simp;omega),Nat.add_sub_cancel_left];rfl
 rw [if_neg (by omega),List.getElem?_set_ne (by omega),List.getElem?_set_ne (by omega),List.getElem?_set_ne (by omega),List.getElem?_set_ne (by omega)]
theorem bQ (w:World) (a:Option Addr) (n cap:Nat) (left:Int) (hn:n<=9223372036854775807) (h0:0<=left) (h1:left<=1048576):
 Calls Tryz.prog 44 #[.slice a n cap,.int .i64 left] w fun e w'=>e=.returned (.int .i64 (bH left n))/\w=w':=by
 by_cases h:(n:Int)<=left
 . go_enter Tryz.func44,Tryz.ntmps44
   go_wp2
   go_ret
   exact ⟨ai ((aD (by omega)).symm),rfl⟩
 go_enter Tryz.func44,Tryz.ntmps44
 go_wp2
 go_ret
 exact ⟨ai ((ar (by omega)).symm),rfl⟩
theorem fF (w:World) (a:Option Addr) (n cap:Nat) (d:List (List Int)) (left:Int) (h:bj.Rd w [.slice a n cap] d) (h0:0<=left) (h1:left<=1048576):
 Calls Tryz.prog 42 #[.slice a n cap,.int .i64 left] w fun e w'=>e=.returned (.int .i64 (bH left (aB d)))/\aG w w':=by
 obtain ⟨hl,hc,hm⟩:=ag h;by_cases hlt:(n:Int)<=left
 . go_enter Tryz.func42,Tryz.ntmps42
   go_wp2
   go_loop [1,5] (fun l i=>∃j:Nat,j<=n/\i=.int .i64 j/\l=.int .i64 (left-n-(bl ((d.map List.length).take j):Int))/\(bl ((d.map List.length).take j):Int)<=left-n) (fun _ i=>n-(intOf i).toNat)
   case atStart=>exact ⟨0,Nat.zero_le _,rfl,by simp [bl],by simp [bl];omega⟩
   obtain ⟨j,hj,rfl,rfl,hs⟩:=hrel;by_cases hjn:j<n
   . rcases cT rfl h with h0'|⟨b,off,rfl,hbl,hcs⟩
     . omega
     have hdj:d[j]?=some (d[j]'(by omega)):=List.getElem?_eq_getElem (by omega);generalize d[j]'(by omega)=x at hdj;obtain ⟨v,hv,hrv⟩:=hcs j x hdj;obtain ⟨av,cv,rfl⟩:=aq hrv;obtain ⟨_,hxc,hxm⟩:=ag hrv;have hst:=bD (l:=d.map List.length) (j:=j) (x:=x.length) (by rw [List.getElem?_map,hdj];rfl);have HW:Hid (bl ((d.map List.length).take (j+1))=bl ((d.map List.length).take j)+x.length):=hst;have hle:=ci (l:=d.map List.length) (j+1);have HE:Hid (aB d=n+bl (d.map List.length)):=by unfold Hid aB;rw [hl]
     generalize hS:bl ((d.map List.length).take j)=S at hs HW;generalize hT:bl (d.map List.length)=T at hle HE;clear hcs hst hS hT hdj;by_cases hx:(x.length:Int)<=left-n-S
     . have hq:bH (left-n-(S:Int)) x.length=left-n-S-x.length:=aD hx
       go_wp2_with fail
       refine (bQ _ _ _ _ _ (by omega) (by omega) (by omega)).mono ?_
       rintro e w1 ⟨rfl,rfl⟩;go_wp2
       go_round
       case rel=>exact ⟨j+1,by omega,by go_num,by rw [HW.out];go_num,by rw [HW.out];omega⟩
       case measure=>simp [intOf];omega
     have hq:bH (left-n-(S:Int)) x.length=-1:=ar (by omega);have hgt:¬((aB d:Nat):Int)<=left:=by rw [HE.out];have:=HW.out;omega
     go_wp2_with fail
     refine (bQ _ _ _ _ _ (by omega) (by omega) (by omega)).mono ?_
     rintro e w1 ⟨rfl,rfl⟩;go_wp2
     go_ret
     exact ⟨ai ((ar (by omega)).symm),aG.refl _⟩
   go_wp2
   go_ret
   have e:j=n:=by omega
   subst e;have ht:(d.map List.length).take j=d.map List.length:=List.take_of_length_le (by simp;omega);rw [ht] at hs;refine ⟨ai ?_,aG.refl _⟩
   rw [ht];rw [aD (by unfold aB;omega)];unfold aB;omega
 have hgt:¬((aB d:Nat):Int)<=left:=by unfold aB;omega
 go_enter Tryz.func42,Tryz.ntmps42
 go_wp2
 go_ret
 exact ⟨ai ((ar (by omega)).symm),aG.refl _⟩
theorem fG (w:World) (x:Int) (a:Option Addr) (n cap:Nat) (left:Int) (hn:n<=9223372036854775807) (h0:0<=left) (h1:left<=1048576):
 Calls Tryz.prog 63 #[.agg #[.int .i64 x,.slice a n cap],.int .i64 left] w fun e w'=>e=.returned (.int .i64 (bH left n))/\Below w.heap.size w w':=by
 by_cases h:(n:Int)<=left
 . have hq:=aD h
   go_enter Tryz.func63,Tryz.ntmps63
   go_wp2_with fail
   refine (bQ _ _ _ _ _ hn h0 h1).mono ?_
   rintro e w1 ⟨rfl,rfl⟩;go_wp2
   go_ret
   exact ⟨ai (by omega),(Below.refl _ _).alloc (Nat.le_refl _) _⟩
 have hq:=ar (left:=left) (wt:=n) (by omega);go_enter Tryz.func63,Tryz.ntmps63
 go_wp2_with fail
 refine (bQ _ _ _ _ _ hn h0 h1).mono ?_
 rintro e w1 ⟨rfl,rfl⟩;go_wp2
 go_ret
 exact ⟨ai (by omega),(Below.refl _ _).alloc (Nat.le_refl _) _⟩
theorem hG (w:World) (E:TypeId) (a:Option Addr) (n cap:Nat) (d:List (Int×List Int)) (left:Int) (h:(aV E).Rd w [.slice a n cap] d) (h0:0<=left) (h1:left<=1048576):
 Calls Tryz.prog 43 #[.slice a n cap,.int .i64 left] w fun e w'=>e=.returned (.int .i64 (bH left (aA d)))/\Below w.heap.size w w':=by
 obtain ⟨hl,hc,hm⟩:=ag h;by_cases hlt:(n:Int)<=left
 . go_enter Tryz.func43,Tryz.ntmps43
   go_wp2
   go_loopw [1,5] (fun l i wr=>∃j:Nat,j<=n/\i=.int .i64 j/\l=.int .i64 (left-n-(bl ((d.map fun x=>x.2.length).take j):Int))/\(bl ((d.map fun x=>x.2.length).take j):Int)<=left-n/\Below w.heap.size w wr) (fun _ i _=>n-(intOf i).toNat)
   case atStart=>exact ⟨0,Nat.zero_le _,rfl,by simp [bl],by simp [bl];omega,Below.refl _ _⟩
   obtain ⟨j,hj,rfl,rfl,hs,hb⟩:=hrel;by_cases hjn:j<n
   . rcases aX rfl h with h0'|⟨b,off,rfl,hbl,hcs⟩
     . omega
     have hdj:d[j]?=some (d[j]'(by omega)):=List.getElem?_eq_getElem (by omega);generalize d[j]'(by omega)=x at hdj;obtain ⟨v0,v1,hv0,hv1,hrv⟩:=hcs j x hdj;obtain ⟨rfl,hrw⟩:=bN hrv;obtain ⟨av,cv,rfl⟩:=aq hrw;obtain ⟨_,hxc,hxm⟩:=ag hrw;have hw0:=(hb.cell (p:=⟨b,off+j*2,none⟩) hbl).trans hv0;have hw1:=(hb.cell (p:=⟨b,off+j*2+1,none⟩) hbl).trans hv1;have hst:=bD (l:=d.map fun x=>x.2.length) (j:=j) (x:=x.2.length) (by rw [List.getElem?_map,hdj];rfl);obtain ⟨x0,x1⟩:=x;simp only at hw0 hw1 hxc hxm hst
     have HW:Hid (bl ((d.map fun x=>x.2.length).take (j+1))=bl ((d.map fun x=>x.2.length).take j)+x1.length):=hst;have hle:=ci (l:=d.map fun x=>x.2.length) (j+1);have HE:Hid (aA d=n+bl (d.map fun x=>x.2.length)):=by unfold Hid aA;rw [hl]
     generalize hS:bl ((d.map fun x=>x.2.length).take j)=S at hs HW;generalize hT:bl (d.map fun x=>x.2.length)=T at hle HE;clear hcs hst hS hT hdj hv0 hv1 hrv hrw;by_cases hx:(x1.length:Int)<=left-n-S
     . have hq:=aD hx
       go_wp2_with fail
       refine (fG _ _ _ _ _ _ (by omega) (by omega) (by omega)).mono ?_
       rintro e w1 ⟨rfl,hb1⟩;have hB:=Below.andThen hb hb1;go_wp2
       go_roundw
       case rel=>exact ⟨j+1,by omega,by go_num,by rw [HW.out];go_num,by rw [HW.out];omega,hB⟩
       case measure=>simp [intOf];omega
     have hq:=ar (left:=left-n-(S:Int)) (wt:=x1.length) (by omega);have hgt:left<((aA d:Nat):Int):=by rw [HE.out];have:=HW.out;omega
     go_wp2_with fail
     refine (fG _ _ _ _ _ _ (by omega) (by omega) (by omega)).mono ?_
     rintro e w1 ⟨rfl,hb1⟩;have hB:=Below.andThen hb hb1;go_wp2
     go_ret
     exact ⟨ai (ar (by omega)).symm,hB⟩
   go_wp2
   go_ret
   have e:j=n:=by omega
   subst e;have ht:(d.map fun x=>x.2.length).take j=d.map fun x=>x.2.length:=List.take_of_length_le (by simp;omega);rw [ht] at hs;refine ⟨ai ?_,hb⟩
   rw [ht,aD (by unfold aA;omega)];unfold aA;omega
 have hgt:left<((aA d:Nat):Int):=by unfold aA;omega
 go_enter Tryz.func43,Tryz.ntmps43
 go_wp2
 go_ret
 exact ⟨ai (ar (by omega)).symm,Below.refl _ _⟩
theorem hH (w:World) (E:TypeId) (a0 a1 a3:Option Addr) (n0 c0 n1 c1 n3 c3:Nat) (ss:List (List Int)) (cs:List (Int×List Int)) (f:Bool) (bs:List Int) (left:Int) (h0:bj.Rd w [.slice a0 n0 c0] ss) (h1:(aV E).Rd w [.slice a1 n1 c1] cs) (h3:aI.Rd w [.slice a3 n3 c3] bs) (hl0:0<=left) (hl1:left<=1048576):
 Calls Tryz.prog 25 #[.agg #[.slice a0 n0 c0,.slice a1 n1 c1,.bool f,.slice a3 n3 c3],.int .i64 left] w fun e w'=>e=.returned (.int .i64 (bH left (aF (ss,cs,f,bs))))/\Below w.heap.size w w':=by
 obtain ⟨hn3,hc3,hm3⟩:=ag h3;have HT:Hid (aF (ss,cs,f,bs)=aB ss+aA cs+n3):=by unfold Hid aF;rw [←hn3]
 generalize aF (ss,cs,f,bs)=T at HT;have hA:Below w.heap.size w (w.alloc (.cells #[.slice a0 n0 c0,.slice a1 n1 c1,.bool f,.slice a3 n3 c3] 56)):=(Below.refl _ _).alloc (Nat.le_refl _) _;have hcell:∀j v,(#[Value.slice a0 n0 c0,.slice a1 n1 c1,.bool f,.slice a3 n3 c3])[j]?=some v->(w.alloc (.cells #[.slice a0 n0 c0,.slice a1 n1 c1,.bool f,.slice a3 n3 c3] 56)).cell? ⟨w.heap.size,j,none⟩=some v:=by
  intro j v hv;rw [cell_of_row _ w.heap.size j _ _ (0,0) (heap_alloc_new w _)];exact hv
 have k1:=hcell 1 _ rfl;have k3:=hcell 3 _ rfl;clear hcell;go_enter Tryz.func25,Tryz.ntmps25
 go_wp2_with fail
 refine (fF _ _ _ _ ss _ (h0.below hA) hl0 hl1).mono ?_
 rintro e w1 ⟨rfl,hs1⟩;have B1:=Below.andSame hA hs1;have k1':=(hs1.cell _).trans k1;have k3':=(hs1.cell _).trans k3;have z1:w.heap.size<w1.heap.size:=by rw [hs1.size];simp
 clear hs1 k1 k3 hA;by_cases q0:(aB ss:Int)<=left
 . have e0:=aD q0
   go_wp2_with fail
   refine (hG _ E _ _ _ cs _ (h1.below B1) (by omega) (by omega)).mono ?_
   rintro e w2 ⟨rfl,hb2⟩;have B2:=Below.andThen B1 hb2;have k3'':=(hb2.cell (p:=⟨w.heap.size,3,none⟩) z1).trans k3';clear hb2 k1' k3';by_cases q1:(aA cs:Int)<=left-aB ss
   . have e1:=aD q1
     go_wp2_with fail
     refine (bQ _ _ _ _ _ (by omega) (by omega) (by omega)).mono ?_
     rintro e w3 ⟨rfl,rfl⟩;by_cases q2:(n3:Int)<=left-aB ss-aA cs
     . have e2:=aD q2
       go_wp2
       go_ret
       exact ⟨ai (by rw [aD (by rw [HT.out];omega),HT.out];omega),B2⟩
     have e2:=ar (left:=left-aB ss-aA cs) (wt:=n3) (by omega);go_wp2
     go_ret
     exact ⟨ai (by rw [ar (by rw [HT.out];omega)]),B2⟩
   have e1:=ar (left:=left-aB ss) (wt:=aA cs) (by omega);go_wp2
   go_ret
   exact ⟨ai (by rw [ar (by rw [HT.out];omega)]),B2⟩
 have e0:=ar (left:=left) (wt:=aB ss) (by omega);go_wp2
 go_ret
 exact ⟨ai (by rw [ar (by rw [HT.out];omega)]),B1⟩
theorem fH (w:World) (a:Option Addr) (n cap:Nat) (d:List (List Int)) (h:bj.Rd w [.slice a n cap] d) (hw:aB d<=1048576):
 Calls Tryz.prog 50 #[.slice a n cap] w fun e w'=>e=.returned (.slice (some ⟨w.heap.size,0,none⟩) n n)/\bj.Own w' w.heap.size w'.heap.size [.slice (some ⟨w.heap.size,0,none⟩) n n] d/\Below w.heap.size w w':=by
 obtain ⟨hl,hc,hm⟩:=ag h;obtain ⟨i0,hi,hz0,hz1,hz2⟩:=info_parts Tryz.infoIntS;have hn:n<=1048576:=by unfold aB at hw;omega
 have hb3:i0.bytes*n<=281474976710656:=by rw [hz2];omega
 have hm3:n<=maxLen:=by unfold maxLen;omega
 go_enter Tryz.func50,Tryz.ntmps50
 go_wp2_with (at_make;refine wpList_make_full _ rfl _ _ 53 rfl w.heap.size 42 i0 (.slice none 0 0) 1 Tryz.underlying53 hi hz0 hz1 _ _ _ _ n rfl rfl rfl rfl hb3 hm3 (Nat.le_refl _) ?_;intro w1 hown hgrow)
 have hO:=dM (t:=aI) (z:=[]) hown (by omega) rfl (fun _=>.inl ⟨rfl,rfl,rfl⟩);have hB1:Below w.heap.size w w1:=(Below.refl _ _).grown hgrow (Nat.le_refl _) (by simp);clear hown hgrow;go_loopw [4] (fun i wr=>∃j:Nat,j<=n/\i=.int .i64 j/\bj.Own wr w.heap.size wr.heap.size [.slice (some ⟨w.heap.size,0,none⟩) n n] (d.take j++List.replicate (n-j) [])/\Below w.heap.size w wr) (fun i _=>n-(intOf i).toNat)
 case atStart=>exact ⟨0,Nat.zero_le _,rfl,by simpa using hO,hB1⟩
 clear hO hB1;obtain ⟨j,hj,rfl,ho,hb⟩:=hrel;by_cases hjn:j<n
 . rcases cT rfl h with h0'|⟨b,off,rfl,hbl,hcs⟩
   . omega
   have hdj:d[j]?=some (d[j]'(by omega)):=List.getElem?_eq_getElem (by omega);have hlen:(d[j]'(by omega)).length<=1048576:=by
    have h1:=bD (l:=d.map List.length) (j:=j) (x:=(d[j]'(by omega)).length) (by rw [List.getElem?_map,hdj];rfl);have h2:=ci (l:=d.map List.length) (j+1);unfold aB at hw;omega
   have HS:=cB d [] _ j hdj;generalize d[j]'(by omega)=x at hdj hlen HS;rw [hl] at HS;have HS':Hid _:=HS;obtain ⟨v,hv,hrv⟩:=hcs j x hdj;obtain ⟨av,cv,rfl⟩:=aq hrv;have hw0:=(hb.cell (p:=⟨b,off+j,none⟩) hbl).trans hv;obtain ⟨hrr,_,_,_⟩:=az (hrv.below hb);clear hcs hdj HS hv;go_wp2_with fail
   refine (dh _ _ _ _ x rfl hrr (by omega)).mono ?_
   rintro e w2 ⟨rfl,ho2,hb2⟩;have s2:=hb2.size;obtain ⟨⟨old,hcy⟩,hfy,hst,hbt⟩:=gh rfl (ho.below hb2) hjn (aC ho2) (Nat.le_refl _) s2;rw [HS'.out] at hst;have HST:Hid _:=hst;have HB:=Below.andThen hb hb2;clear ho ho2 hb2 hst hbt hb;go_wp2
   go_roundw
   case rel=>exact ⟨j+1,by omega,by go_num,by first|exact HST.out|(rw [World.size_setCell];exact HST.out),HB.setCell (p:=⟨w.heap.size,j,none⟩) (Nat.le_refl _) _⟩
   case measure=>simp [intOf];omega
 go_wp2
 go_ret
 have e:j=n:=by omega
 subst e;rw [Nat.sub_self,List.replicate_zero,List.append_nil,List.take_of_length_le (by omega)] at ho;exact ⟨rfl,ho,hb⟩
theorem iD (w:World) (x:Int) (a:Option Addr) (n cap:Nat) (zs:List Int) (h:aI.Rd w [.slice a n cap] zs) (hn:n<=1048576):
 Calls Tryz.prog 71 #[.agg #[.int .i64 x,.slice a n cap]] w fun e w'=>∃g,e=.returned (.agg #[.int .i64 x,.slice (some ⟨g,0,none⟩) n n])/\tWr.Own w' w.heap.size w'.heap.size [.int .i64 x,.slice (some ⟨g,0,none⟩) n n] (x,zs)/\Below w.heap.size w w':=by
 obtain ⟨hr,hl,_,_⟩:=az h;go_enter Tryz.func71,Tryz.ntmps71
 have hA:Below w.heap.size w (((w.alloc (.cells #[.int .i64 x,.slice a n cap] 94)).alloc (.cells #[.int .i64 0,.slice none 0 0] 98)).alloc (.cells #[.int .i64 x,.slice none 0 0] 98)):=
  (((Below.refl _ _).alloc (Nat.le_refl _) _).alloc (by simp) _).alloc (by simp;omega) _
 have hr3:=hr.below hA;go_wp2_with fail
 refine (dh _ _ _ _ zs hl hr3 (by omega)).mono ?_
 rintro e w4 ⟨rfl,ho4,hb4⟩;obtain ⟨hc,hf⟩:=eX hb4;have hz:w.heap.size+1+1<w4.heap.size:=by have:=hb4.size;simp at this;omega
 have HO:=aC ho4;have HB:=hA.trans (hb4.mono (by simp;omega));have e3:(((w.alloc (.cells #[.int .i64 x,.slice a n cap] 94)).alloc (.cells #[.int .i64 0,.slice none 0 0] 98)).alloc (.cells #[.int .i64 x,.slice none 0 0] 98)).heap.size=w.heap.size+1+1+1:=by simp
 rw [e3] at HO;have HO':=ab HO;clear HO ho4 hb4 hA hr3 e3;go_wp2
 have hbt:But w.heap.size (w.heap.size+1+1+1) w4 (((w4.setCell ⟨w.heap.size+1+1,1,none⟩ (.slice (some ⟨w.heap.size+1+1+1,0,none⟩) n n)).setCell ⟨w.heap.size+1,0,none⟩ (.int .i64 x)).setCell ⟨w.heap.size+1,1,none⟩ (.slice (some ⟨w.heap.size+1+1+1,0,none⟩) n n)):=
  ((But.setCell (by omega) (by omega) _).trans (But.setCell (by omega) (by omega) _)).trans (But.setCell (by omega) (by omega) _)
 have hO:=HO'.out.but hbt (.inr (Nat.le_refl _));have hB:=Below.andBut HB hbt (Nat.le_refl _);have hS:=hbt.size;refine bodyPost_ret (v:=.agg #[.int .i64 x,.slice (some ⟨w.heap.size+1+1+1,0,none⟩) n n]) (by simp [results,Tryz.results71,go_sem,hc]) rfl ⟨_,rfl,?_,hB⟩
 exact cn (t:=dq) (gS _ _ _ _) (hO.widen (lo':=w.heap.size) (by omega) hS) (Nat.le_refl _) (by simp;omega)
theorem hJ (w:World) (E:TypeId) (a:Option Addr) (n cap:Nat) (d:List (Int×List Int)) (h:(aV E).Rd w [.slice a n cap] d) (hw:aA d<=1048576):
 Calls Tryz.prog 51 #[.slice a n cap] w fun e w'=>e=.returned (.slice (some ⟨w.heap.size,0,none⟩) n n)/\(aV 98).Own w' w.heap.size w'.heap.size [.slice (some ⟨w.heap.size,0,none⟩) n n] d/\Below w.heap.size w w':=by
 obtain ⟨hl,hc,hm⟩:=ag h;obtain ⟨i0,hi,hz0,hz1,hz2⟩:=info_parts Tryz.infoWr;have hn:n<=1048576:=by unfold aA at hw;omega
 have hb3:i0.bytes*n<=281474976710656:=by rw [hz2];omega
 have hm3:n<=maxLen:=by unfold maxLen;omega
 go_enter Tryz.func51,Tryz.ntmps51
 go_wp2_with (at_make;refine wpList_make_full _ rfl _ _ 64 rfl w.heap.size 98 i0 (.agg #[.int .i64 0,.slice none 0 0]) 2 Tryz.underlying64 hi hz0 hz1 _ _ _ _ n rfl rfl rfl rfl hb3 hm3 (Nat.le_refl _) ?_;intro w1 hown hgrow)
 have hO:=dM (t:=tWr) (z:=(0,[])) hown (by omega) rfl (fun _=>⟨[],[],rfl,⟨rfl,rfl⟩,.inl ⟨rfl,rfl,rfl⟩,rfl⟩);have hB1:Below w.heap.size w w1:=(Below.refl _ _).grown hgrow (Nat.le_refl _) (by simp);clear hown hgrow;go_loopw [4] (fun i wr=>∃j:Nat,j<=n/\i=.int .i64 j/\(aV 98).Own wr w.heap.size wr.heap.size [.slice (some ⟨w.heap.size,0,none⟩) n n] (d.take j++List.replicate (n-j) (0,[]))/\Below w.heap.size w wr) (fun i _=>n-(intOf i).toNat)
 case atStart=>exact ⟨0,Nat.zero_le _,rfl,by simpa using hO,hB1⟩
 clear hO hB1;obtain ⟨j,hj,rfl,ho,hb⟩:=hrel;by_cases hjn:j<n
 . rcases aX rfl h with h0'|⟨b,off,rfl,hbl,hcs⟩
   . omega
   have hdj:d[j]?=some (d[j]'(by omega)):=List.getElem?_eq_getElem (by omega);have hlen:(d[j]'(by omega)).2.length<=1048576:=by
    have h1:=bD (l:=d.map fun x=>x.2.length) (j:=j) (x:=(d[j]'(by omega)).2.length) (by rw [List.getElem?_map,hdj];rfl);have h2:=ci (l:=d.map fun x=>x.2.length) (j+1);unfold aA at hw;omega
   have HS:=cB d (0,[]) _ j hdj;generalize d[j]'(by omega)=x at hdj hlen HS;rw [hl] at HS;have HS':Hid _:=HS;obtain ⟨v0,v1,hv0,hv1,hrv⟩:=hcs j x hdj;obtain ⟨rfl,hrw⟩:=bN hrv;obtain ⟨av,cv,rfl⟩:=aq hrw;have hw0:=(hb.cell (p:=⟨b,off+j*2,none⟩) hbl).trans hv0;have hw1:=(hb.cell (p:=⟨b,off+j*2+1,none⟩) hbl).trans hv1;have hrr:=hrw.below hb;obtain ⟨x0,x1⟩:=x;simp only at hw0 hw1 hlen hrr
   clear hcs hdj HS hv0 hv1 hrv hrw;go_wp2_with fail
   refine (iD _ _ _ _ _ x1 hrr (by omega)).mono ?_
   rintro e w2 ⟨g2,rfl,ho2,hb2⟩;have s2:=hb2.size;obtain ⟨⟨old0,hcy0⟩,⟨old1,hcy1⟩,hfy0,hfy1,hst,hbt⟩:=ex rfl (ho.below hb2) hjn ho2 (Nat.le_refl _) s2;rw [HS'.out] at hst;have HST:=ab hst;have HB:=Below.andThen hb hb2;clear ho ho2 hb2 hst hbt hb;go_wp2
   go_roundw
   case rel=>exact ⟨j+1,by omega,by go_num,by first|exact HST.out|(simp only [World.size_setCell];exact HST.out),(HB.setCell (p:=⟨w.heap.size,j*2,none⟩) (Nat.le_refl _) _).setCell (p:=⟨w.heap.size,j*2+1,none⟩) (Nat.le_refl _) _⟩
   case measure=>simp [intOf];omega
 go_wp2
 go_ret
 have e:j=n:=by omega
 subst e;rw [Nat.sub_self,List.replicate_zero,List.append_nil,List.take_of_length_le (by omega)] at ho;exact ⟨rfl,ho,hb⟩
theorem hP (w:World) (E:TypeId) (a0 a1 a3:Option Addr) (n0 c0 n1 c1 n3 c3:Nat) (ss:List (List Int)) (cs:List (Int×List Int)) (f:Bool) (bs:List Int) (h0:bj.Rd w [.slice a0 n0 c0] ss) (h1:(aV E).Rd w [.slice a1 n1 c1] cs) (h3:aI.Rd w [.slice a3 n3 c3] bs) (hw:aF (ss,cs,f,bs)<=1048576):
 Calls Tryz.prog 32 #[.agg #[.slice a0 n0 c0,.slice a1 n1 c1,.bool f,.slice a3 n3 c3]] w fun e w'=>∃b0 b1 b3,e=.returned (.agg #[.slice b0 n0 n0,.slice b1 n1 n1,.bool f,.slice b3 n3 n3]) /\
  (ft 98).Own w' w.heap.size w'.heap.size [.slice b0 n0 n0,.slice b1 n1 n1,.bool f,.slice b3 n3 n3] (ss,cs,f,bs)/\Below w.heap.size w w':=by
 obtain ⟨hn3,hc3,hm3⟩:=ag h3;have hw0:aB ss<=1048576:=by unfold aF at hw;simp only at hw;omega
 have hw1:aA cs<=1048576:=by unfold aF at hw;simp only at hw;omega
 have hw3:n3<=1048576:=by unfold aF at hw;simp only at hw;omega
 have hA:Below w.heap.size w (((w.alloc (.cells #[.slice a0 n0 c0,.slice a1 n1 c1,.bool f,.slice a3 n3 c3] 56)).alloc (.cells #[.slice none 0 0,.slice none 0 0,.bool false,.slice none 0 0] 66)).alloc (.cells #[.slice none 0 0,.slice none 0 0,.bool false,.slice none 0 0] 66)):=
  (((Below.refl _ _).alloc (Nat.le_refl _) _).alloc (by simp) _).alloc (by simp;omega) _
 have e3:(((w.alloc (.cells #[.slice a0 n0 c0,.slice a1 n1 c1,.bool f,.slice a3 n3 c3] 56)).alloc (.cells #[.slice none 0 0,.slice none 0 0,.bool false,.slice none 0 0] 66)).alloc (.cells #[.slice none 0 0,.slice none 0 0,.bool false,.slice none 0 0] 66)).heap.size=w.heap.size+1+1+1:=by simp
 have HE3:=ab e3;clear e3;go_enter Tryz.func32,Tryz.ntmps32
 go_wp2_with fail
 refine (fH _ _ _ _ ss (h0.below hA) hw0).mono ?_
 rintro e w4 ⟨rfl,ho4,hb4⟩;obtain ⟨hc4,hf4⟩:=eX hb4;have z4:=hb4.size;rw [HE3.out] at ho4 z4;have z4a:w.heap.size<w4.heap.size:=by omega
 have z4b:w.heap.size+1<w4.heap.size:=by omega
 have z4c:w.heap.size+1+1<w4.heap.size:=by omega
 have B4:=hA.trans (hb4.mono (by rw [HE3.out];omega));have B4':=B4.setCell (p:=⟨w.heap.size+1+1,0,none⟩) (by show _<=_+1+1;omega) (.slice (some ⟨w.heap.size+1+1+1,0,none⟩) n0 n0);have q4:But w.heap.size (w.heap.size+1+1+1) w4 (w4.setCell ⟨w.heap.size+1+1,0,none⟩ (.slice (some ⟨w.heap.size+1+1+1,0,none⟩) n0 n0)):=But.setCell (by omega) (by omega) _;have O4:=ab (ho4.but q4 (.inr (Nat.le_refl _)));have HB4:=ab B4';have H1:=ab (h1.below B4');clear hb4 ho4 hA B4 B4' q4;go_wp2_with fail
 refine (hJ _ E _ _ _ cs H1.out hw1).mono ?_
 rintro e w5 ⟨rfl,ho5,hb5⟩;obtain ⟨hc5,hf5⟩:=eX hb5;have z5:=hb5.size;rw [World.size_setCell] at ho5 z5 hc5 hf5;have z5a:w.heap.size<w5.heap.size:=by omega
 have z5b:w.heap.size+1<w5.heap.size:=by omega
 have z5c:w.heap.size+1+1<w5.heap.size:=by omega
 have B5:=Below.andThen HB4.out hb5;have q5:But w.heap.size (w.heap.size+1+1+1) w5 ((w5.setCell ⟨w.heap.size+1+1,1,none⟩ (.slice (some ⟨w4.heap.size,0,none⟩) n1 n1)).setCell ⟨w.heap.size+1+1,2,none⟩ (.bool f)):=(But.setCell (by omega) (by omega) _).trans (But.setCell (by omega) (by omega) _);have O4':=ab ((O4.out.below hb5).but q5 (.inr (Nat.le_refl _)));have O5:=ab (ho5.but q5 (.inr (by omega)));have HB5:=ab (Below.andBut B5 q5 (Nat.le_refl _));have H3:=ab (h3.below HB5.out);clear hb5 ho5 B5 q5 O4 HB4 H1;go_wp2_with fail
 refine (dh _ _ _ _ bs hn3 (az H3.out).1 (by omega)).mono ?_
 rintro e w6 ⟨rfl,ho6,hb6⟩;obtain ⟨hc6,hf6⟩:=eX hb6;have z6:=hb6.size;have o6:=aC ho6;rw [World.size_setCell,World.size_setCell] at o6 z6 hc6 hf6;have B6:=Below.andThen HB5.out hb6;have z6a:w.heap.size<w6.heap.size:=by omega
 have z6b:w.heap.size+1<w6.heap.size:=by omega
 have z6c:w.heap.size+1+1<w6.heap.size:=by omega
 have O4'':=ab (O4'.out.below hb6);have O5':=ab (O5.out.below hb6);have O6:=ab o6;have HB6:=ab B6;clear hb6 ho6 B6 O4' O5 HB5 H3 o6;go_wp2
 have fin:∀W',But w.heap.size (w.heap.size+1+1+1) w6 W'->(ft 98).Own W' w.heap.size W'.heap.size [.slice (some ⟨w.heap.size+1+1+1,0,none⟩) n0 n0,.slice (some ⟨w4.heap.size,0,none⟩) n1 n1,.bool f,.slice (some ⟨w5.heap.size,0,none⟩) n3 n3] (ss,cs,f,bs)/\Below w.heap.size w W':=by
  intro W' hb;have p0:=O4''.out.but hb (.inr (Nat.le_refl _));have p1:=O5'.out.but hb (.inr (by omega));have p3:=O6.out.but hb (.inr (by omega));have hS:=hb.size;refine ⟨?_,Below.andBut HB6.out hb (Nat.le_refl _)⟩
  exact cn (t:=bj) (vs:=[_]) (p0.widen (by omega) (Nat.le_refl _)) (cn (t:=aV 98) (vs:=[_]) p1 (cn (t:=ev) (vs:=[_]) (iC _ _ _ _) (p3.widen (Nat.le_refl _) hS) (Nat.le_refl _) (by omega)) (by omega) (by omega)) (by omega) (by omega)
 have fn:=fin _ (((((But.setCell (j:=3) (g:=w.heap.size+1+1) (by omega) (by omega) (.slice (some ⟨w5.heap.size,0,none⟩) n3 n3)).trans (But.setCell (j:=0) (g:=w.heap.size+1) (by omega) (by omega) (.slice (some ⟨w.heap.size+1+1+1,0,none⟩) n0 n0))).trans (But.setCell (j:=1) (g:=w.heap.size+1) (by omega) (by omega) (.slice (some ⟨w4.heap.size,0,none⟩) n1 n1))).trans (But.setCell (j:=2) (g:=w.heap.size+1) (by omega) (by omega) (.bool f))).trans (But.setCell (j:=3) (g:=w.heap.size+1) (by omega) (by omega) (.slice (some ⟨w5.heap.size,0,none⟩) n3 n3)));refine bodyPost_ret (v:=.agg #[.slice (some ⟨w.heap.size+1+1+1,0,none⟩) n0 n0,.slice (some ⟨w4.heap.size,0,none⟩) n1 n1,.bool f,.slice (some ⟨w5.heap.size,0,none⟩) n3 n3]) (by simp [results,Tryz.results32,go_sem,hc6,hc5,hc4,z5b,z4b]) rfl ⟨_,_,_,rfl,fn.1,fn.2⟩
def Box (w:World) (B:Nat) (T:TypeId) (cs:Array Value):Prop:=w.heap[B]?=some (.cells cs T (0,0))
theorem Box.cell {w:World} {B:Nat} {T:TypeId} {cs:Array Value} (h:Box w B T cs) (j:Nat):w.cell? ⟨B,j,none⟩=cs[j]?:=cell_of_row w B j cs T (0,0) h
theorem Box.cells4 {w:World} {B:Nat} {T:TypeId} {v0 v1 v2 v3:Value} (h:Box w B T #[v0,v1,v2,v3]):w.cell? ⟨B,0,none⟩=some v0/\w.cell? ⟨B,1,none⟩=some v1/\w.cell? ⟨B,2,none⟩=some v2/\w.cell? ⟨B,3,none⟩=some v3:=
 ⟨h.cell 0,h.cell 1,h.cell 2,h.cell 3⟩
theorem Box.cells2 {w:World} {B:Nat} {T:TypeId} {v0 v1:Value} (h:Box w B T #[v0,v1]):w.cell? ⟨B,0,none⟩=some v0/\w.cell? ⟨B,1,none⟩=some v1:=⟨h.cell 0,h.cell 1⟩
theorem Box.frozen {w:World} {B:Nat} {T:TypeId} {cs:Array Value} (h:Box w B T cs) (j:Nat):w.frozen? ⟨B,j,none⟩=false:=frozen_of_row w B j cs T h
theorem Box.lt {w:World} {B:Nat} {T:TypeId} {cs:Array Value} (h:Box w B T cs):B<w.heap.size:=(Array.getElem?_eq_some_iff.1 h).1
theorem Box.kept {w w':World} {B:Nat} {T:TypeId} {cs:Array Value} (h:Box w B T cs) (hk:w'.heap[B]?=w.heap[B]?):Box w' B T cs:=hk.trans h
theorem Box.below {w w':World} {B N:Nat} {T:TypeId} {cs:Array Value} (h:Box w B T cs) (hb:Below N w w') (hN:B<N):Box w' B T cs:=h.kept (hb.block B hN)
theorem Box.turned {w w':World} {B:Nat} {T:TypeId} {cs:Array Value} {fp:List Nat} (h:Box w B T cs) (ht:aJ fp w w') (hB:B∉fp):Box w' B T cs:=h.kept (ht.block B h.lt hB)
theorem Box.same {w w':World} {B:Nat} {T:TypeId} {cs:Array Value} (h:Box w B T cs) (hs:aG w w'):Box w' B T cs:=h.kept (by rw [hs.heap])
theorem Box.set {w:World} {B:Nat} {T:TypeId} {cs:Array Value} (h:Box w B T cs) (j:Nat) (v:Value):Box (w.setCell ⟨B,j,none⟩ v) B T (cs.setIfInBounds j v):=heap_setCell_same w B j cs T v h
theorem Box.other {w:World} {B g:Nat} {T:TypeId} {cs:Array Value} (h:Box w B T cs) (hne:B≠g) (j:Nat) (v:Value):Box (w.setCell ⟨g,j,none⟩ v) B T cs:=h.kept (Below.heap_setCell _ _ _ _ hne)
theorem Box.alloc {w:World} {B:Nat} {T:TypeId} {cs:Array Value} (h:Box w B T cs) (o:Obj):Box (w.alloc o) B T cs:=h.kept (((Below.refl (B+1) w).alloc h.lt o).block B (Nat.lt_succ_self _))
theorem Box.new (w:World) (T:TypeId) (cs:Array Value):Box (w.alloc (.cells cs T)) w.heap.size T cs:=heap_alloc_new w _
theorem aJ.alloc {fp:List Nat} {w w':World} (h:aJ fp w w') (o:Obj):aJ fp w (w'.alloc o):=
 ⟨h.os,h.tape,h.output,Nat.le_trans h.size (by simp),fun k hk hf=>(((Below.refl (k+1) w').alloc (Nat.lt_of_lt_of_le hk h.size) o).block k (Nat.lt_succ_self _)).trans (h.block k hk hf)⟩
theorem aJ.below {fp:List Nat} {w w':World} {N:Nat} (h:aJ fp w w') (hN:N<=w.heap.size) (hf:∀b∈fp,N<=b):Below N w w':=
 ⟨h.os,h.tape,h.output,h.size,fun k hk=>h.block k (by omega) (fun hm=>by have:=hf k hm;omega)⟩
theorem aJ.ofBelow {w w':World} (h:Below w.heap.size w w') (fp:List Nat):aJ fp w w':=⟨h.os,h.tape,h.output,h.size,fun k hk _=>h.block k hk⟩
theorem Ty.Mine.below {t:Ty} {w w':World} {vs:List Value} {d:t.D} {fp:List Nat} (h:t.Mine w vs d fp) (hb:Below w.heap.size w w'):t.Mine w' vs d fp:=h.kept (aJ.ofBelow hb []) (by simp)
theorem Ty.Mine.alloc {t:Ty} {w:World} {vs:List Value} {d:t.D} {fp:List Nat} (h:t.Mine w vs d fp) (o:Obj):t.Mine (w.alloc o) vs d fp:=h.kept ((aJ.refl [] w).alloc o) (by simp)
theorem Ty.Mine.setCell {t:Ty} {w:World} {vs:List Value} {d:t.D} {fp:List Nat} {g j:Nat} (h:t.Mine w vs d fp) (hg:g∉fp) (v:Value):t.Mine (w.setCell ⟨g,j,none⟩ v) vs d fp:=
 h.kept (aJ.setCell (fp:=[g]) v (by simp)) (fun b hb hb'=>hg (by simp at hb';exact hb'▸hb))
theorem Ty.Rd.turned {t:Ty} {w w':World} {vs:List Value} {d:t.D} {fp fq:List Nat} (h:t.rd w vs d fp) (ht:aJ fq w w') (hd:∀b∈fp,b∉fq):t.rd w' vs d fp:=t.rdKept h (fun b hb=>ht.block b (t.rdLt h b hb) (hd b hb)) ht.size
def dD (n s lost jh:Int):Bool:=if lost=-1 then decide (jh=0) else inB lost 0 (n-1)&&inB jh 0 s
theorem ii {n s lost jh:Int}:dD n s lost jh=true ↔ (lost=-1/\jh=0)∨(¬lost=-1/\0<=lost/\lost<=n-1/\0<=jh/\jh<=s):=by
 unfold dD;split
 . rename_i h
   simp [h]
 rename_i h
 rw [Bool.and_eq_true,aP,aP];simp [h,and_assoc]
theorem gy (w:World) (n s lost jh:Int) (hn:3<=n/\n<=5):Calls Tryz.prog 73 #[.agg #[.int .i64 n,.int .i64 s],.int .i64 lost,.int .i64 jh] w fun e w'=>e=.returned (.bool (dD n s lost jh))/\Below w.heap.size w w':=by
 have hA:=af w (.cells #[.int .i64 n,.int .i64 s] 31);obtain ⟨k0,k1⟩:=(bp.new w 31 n s).cells;have gw:IntKind.i64.wrap (n-1)=n-1:=IntWalk.i64_in _ (by omega);by_cases h:lost=-1
 . by_cases hb:jh=0
   . go_enter Tryz.func73,Tryz.ntmps73
     go_wp2
     go_ret
     exact ⟨ac (by unfold dD;rw [if_pos h];simp [hb]),hA⟩
   go_enter Tryz.func73,Tryz.ntmps73
   go_wp2
   go_ret
   exact ⟨ac (by unfold dD;rw [if_pos h];simp [hb]),hA⟩
 have HD:Hid (dD n s lost jh=(inB lost 0 (n-1)&&inB jh 0 s)):=by unfold Hid dD;rw [if_neg h]
 go_enter Tryz.func73,Tryz.ntmps73
 go_wp2_with fail
 refine (bq _ _ _ _).mono ?_
 rintro e w1 ⟨rfl,rfl⟩;by_cases h1:inB lost 0 (n-1)=true
 . go_wp2_with fail
   refine (bq _ _ _ _).mono ?_
   rintro e w1 ⟨rfl,rfl⟩;go_wp2
   go_ret
   exact ⟨ac (by rw [HD.out,h1];rfl),hA⟩
 have h1':inB lost 0 (n-1)=false:=by simpa using h1
 go_wp2
 go_ret
 exact ⟨ac (by rw [HD.out,h1'];rfl),hA⟩
end Go.Proofs.YtfimpohbpccjaaaGreat
