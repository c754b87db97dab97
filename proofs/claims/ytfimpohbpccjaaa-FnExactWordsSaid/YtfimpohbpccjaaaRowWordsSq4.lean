/-
 Plain lemmas on 'append' to a row of a call's own, of whatever data: one element more, itself of the call's own. No condition; nothing of the program is named here.
-/
import Derived.Test.YtfimpohbpccjaaaRowWordsSq2
import Derived.Test.YtfimpohbpccjaaaRowWordsSq1
import Derived.Maps.AppendAt

set_option maxRecDepth 100000
set_option maxHeartbeats 8000000
set_option linter.unusedSimpArgs false

namespace Go.Proofs.Ytfimpohbpccjaaa
open Go.RowKit

theorem bD (w:World) (a:Option Addr) (n cap:Nat) (left:Int) (hn:n<=9223372036854775807) (h0:0<=left) (h1:left<=1048576):
 Calls Try.prog 77 #[.slice a n cap,.int .i64 left] w fun e w'=>e=.returned (.int .i64 (bt left n))/\w=w':=by
 by_cases h:(n:Int)<=left
 . go_enter Try.func77,Try.ntmps77
   go_wp2
   go_ret
   exact ⟨ar ((aC (by omega)).symm),rfl⟩
 go_enter Try.func77,Try.ntmps77
 go_wp2
 go_ret
 exact ⟨ar ((ao (by omega)).symm),rfl⟩
theorem eP (w:World) (a:Option Addr) (n cap:Nat) (d:List (List Int)) (left:Int) (h:aM.Rd w [.slice a n cap] d) (h0:0<=left) (h1:left<=1048576):
 Calls Try.prog 75 #[.slice a n cap,.int .i64 left] w fun e w'=>e=.returned (.int .i64 (bt left (aw d)))/\aG w w':=by
 obtain ⟨hl,hc,hm⟩:=af h;by_cases hlt:(n:Int)<=left
 . go_enter Try.func75,Try.ntmps75
   go_wp2
   go_loop [1,5] (fun l i=>∃j:Nat,j<=n/\i=.int .i64 j/\l=.int .i64 (left-n-(aE ((d.map List.length).take j):Int))/\(aE ((d.map List.length).take j):Int)<=left-n) (fun _ i=>n-(intOf i).toNat)
   case atStart=>exact ⟨0,Nat.zero_le _,rfl,by simp [aE],by simp [aE];omega⟩
   obtain ⟨j,hj,rfl,rfl,hs⟩:=hrel;by_cases hjn:j<n
   . rcases cG rfl h with h0'|⟨b,off,rfl,hbl,hcs⟩
     . omega
     have hdj:d[j]?=some (d[j]'(by omega)):=List.getElem?_eq_getElem (by omega);generalize d[j]'(by omega)=x at hdj;obtain ⟨v,hv,hrv⟩:=hcs j x hdj;obtain ⟨av,cv,rfl⟩:=ak hrv;obtain ⟨_,hxc,hxm⟩:=af hrv;have hst:=aV (l:=d.map List.length) (j:=j) (x:=x.length) (by rw [List.getElem?_map,hdj];rfl);have HW:Hid (aE ((d.map List.length).take (j+1))=aE ((d.map List.length).take j)+x.length):=hst;have hle:=bq (l:=d.map List.length) (j+1);have HE:Hid (aw d=n+aE (d.map List.length)):=by unfold Hid aw;rw [hl]
     generalize hS:aE ((d.map List.length).take j)=S at hs HW;generalize hT:aE (d.map List.length)=T at hle HE;clear hcs hst hS hT hdj;by_cases hx:(x.length:Int)<=left-n-S
     . have hq:bt (left-n-(S:Int)) x.length=left-n-S-x.length:=aC hx
       go_wp2_with fail
       refine (bD _ _ _ _ _ (by omega) (by omega) (by omega)).mono ?_
       rintro e w1 ⟨rfl,rfl⟩;go_wp2
       go_round
       case rel=>exact ⟨j+1,by omega,by go_num,by rw [HW.out];go_num,by rw [HW.out];omega⟩
       case measure=>simp [intOf];omega
     have hq:bt (left-n-(S:Int)) x.length=-1:=ao (by omega);have hgt:¬((aw d:Nat):Int)<=left:=by rw [HE.out];have:=HW.out;omega
     go_wp2_with fail
     refine (bD _ _ _ _ _ (by omega) (by omega) (by omega)).mono ?_
     rintro e w1 ⟨rfl,rfl⟩;go_wp2
     go_ret
     exact ⟨ar ((ao (by omega)).symm),aG.refl _⟩
   go_wp2
   go_ret
   have e:j=n:=by omega
   subst e;have ht:(d.map List.length).take j=d.map List.length:=List.take_of_length_le (by simp;omega);rw [ht] at hs;refine ⟨ar ?_,aG.refl _⟩
   rw [ht];rw [aC (by unfold aw;omega)];unfold aw;omega
 have hgt:¬((aw d:Nat):Int)<=left:=by unfold aw;omega
 go_enter Try.func75,Try.ntmps75
 go_wp2
 go_ret
 exact ⟨ar ((ao (by omega)).symm),aG.refl _⟩
theorem eQ (w:World) (x:Int) (a:Option Addr) (n cap:Nat) (left:Int) (hn:n<=9223372036854775807) (h0:0<=left) (h1:left<=1048576):
 Calls Try.prog 95 #[.agg #[.int .i64 x,.slice a n cap],.int .i64 left] w fun e w'=>e=.returned (.int .i64 (bt left n))/\Below w.heap.size w w':=by
 by_cases h:(n:Int)<=left
 . have hq:=aC h
   go_enter Try.func95,Try.ntmps95
   go_wp2_with fail
   refine (bD _ _ _ _ _ hn h0 h1).mono ?_
   rintro e w1 ⟨rfl,rfl⟩;go_wp2
   go_ret
   exact ⟨ar (by omega),(Below.refl _ _).alloc (Nat.le_refl _) _⟩
 have hq:=ao (left:=left) (wt:=n) (by omega);go_enter Try.func95,Try.ntmps95
 go_wp2_with fail
 refine (bD _ _ _ _ _ hn h0 h1).mono ?_
 rintro e w1 ⟨rfl,rfl⟩;go_wp2
 go_ret
 exact ⟨ar (by omega),(Below.refl _ _).alloc (Nat.le_refl _) _⟩
theorem gl (w:World) (E:TypeId) (a:Option Addr) (n cap:Nat) (d:List (Int×List Int)) (left:Int) (h:(aP E).Rd w [.slice a n cap] d) (h0:0<=left) (h1:left<=1048576):
 Calls Try.prog 76 #[.slice a n cap,.int .i64 left] w fun e w'=>e=.returned (.int .i64 (bt left (aq d)))/\Below w.heap.size w w':=by
 obtain ⟨hl,hc,hm⟩:=af h;by_cases hlt:(n:Int)<=left
 . go_enter Try.func76,Try.ntmps76
   go_wp2
   go_loopw [1,5] (fun l i wr=>∃j:Nat,j<=n/\i=.int .i64 j/\l=.int .i64 (left-n-(aE ((d.map fun x=>x.2.length).take j):Int))/\(aE ((d.map fun x=>x.2.length).take j):Int)<=left-n/\Below w.heap.size w wr) (fun _ i _=>n-(intOf i).toNat)
   case atStart=>exact ⟨0,Nat.zero_le _,rfl,by simp [aE],by simp [aE];omega,Below.refl _ _⟩
   obtain ⟨j,hj,rfl,rfl,hs,hb⟩:=hrel;by_cases hjn:j<n
   . rcases bf rfl h with h0'|⟨b,off,rfl,hbl,hcs⟩
     . omega
     have hdj:d[j]?=some (d[j]'(by omega)):=List.getElem?_eq_getElem (by omega);generalize d[j]'(by omega)=x at hdj;obtain ⟨v0,v1,hv0,hv1,hrv⟩:=hcs j x hdj;obtain ⟨rfl,hrw⟩:=bZ hrv;obtain ⟨av,cv,rfl⟩:=ak hrw;obtain ⟨_,hxc,hxm⟩:=af hrw;have hw0:=(hb.cell (p:=⟨b,off+j*2,none⟩) hbl).trans hv0;have hw1:=(hb.cell (p:=⟨b,off+j*2+1,none⟩) hbl).trans hv1;have hst:=aV (l:=d.map fun x=>x.2.length) (j:=j) (x:=x.2.length) (by rw [List.getElem?_map,hdj];rfl);obtain ⟨x0,x1⟩:=x;simp only at hw0 hw1 hxc hxm hst
     have HW:Hid (aE ((d.map fun x=>x.2.length).take (j+1))=aE ((d.map fun x=>x.2.length).take j)+x1.length):=hst;have hle:=bq (l:=d.map fun x=>x.2.length) (j+1);have HE:Hid (aq d=n+aE (d.map fun x=>x.2.length)):=by unfold Hid aq;rw [hl]
     generalize hS:aE ((d.map fun x=>x.2.length).take j)=S at hs HW;generalize hT:aE (d.map fun x=>x.2.length)=T at hle HE;clear hcs hst hS hT hdj hv0 hv1 hrv hrw;by_cases hx:(x1.length:Int)<=left-n-S
     . have hq:=aC hx
       go_wp2_with fail
       refine (eQ _ _ _ _ _ _ (by omega) (by omega) (by omega)).mono ?_
       rintro e w1 ⟨rfl,hb1⟩;have hB:=Below.andThen hb hb1;go_wp2
       go_roundw
       case rel=>exact ⟨j+1,by omega,by go_num,by rw [HW.out];go_num,by rw [HW.out];omega,hB⟩
       case measure=>simp [intOf];omega
     have hq:=ao (left:=left-n-(S:Int)) (wt:=x1.length) (by omega);have hgt:left<((aq d:Nat):Int):=by rw [HE.out];have:=HW.out;omega
     go_wp2_with fail
     refine (eQ _ _ _ _ _ _ (by omega) (by omega) (by omega)).mono ?_
     rintro e w1 ⟨rfl,hb1⟩;have hB:=Below.andThen hb hb1;go_wp2
     go_ret
     exact ⟨ar (ao (by omega)).symm,hB⟩
   go_wp2
   go_ret
   have e:j=n:=by omega
   subst e;have ht:(d.map fun x=>x.2.length).take j=d.map fun x=>x.2.length:=List.take_of_length_le (by simp;omega);rw [ht] at hs;refine ⟨ar ?_,hb⟩
   rw [ht,aC (by unfold aq;omega)];unfold aq;omega
 have hgt:left<((aq d:Nat):Int):=by unfold aq;omega
 go_enter Try.func76,Try.ntmps76
 go_wp2
 go_ret
 exact ⟨ar (ao (by omega)).symm,Below.refl _ _⟩
theorem gm (w:World) (E:TypeId) (a0 a1 a3:Option Addr) (n0 c0 n1 c1 n3 c3:Nat) (ss:List (List Int)) (cs:List (Int×List Int)) (f:Bool) (bs:List Int) (left:Int) (h0:aM.Rd w [.slice a0 n0 c0] ss) (h1:(aP E).Rd w [.slice a1 n1 c1] cs) (h3:aA.Rd w [.slice a3 n3 c3] bs) (hl0:0<=left) (hl1:left<=1048576):
 Calls Try.prog 51 #[.agg #[.slice a0 n0 c0,.slice a1 n1 c1,.bool f,.slice a3 n3 c3],.int .i64 left] w fun e w'=>e=.returned (.int .i64 (bt left (aB (ss,cs,f,bs))))/\Below w.heap.size w w':=by
 obtain ⟨hn3,hc3,hm3⟩:=af h3;have HT:Hid (aB (ss,cs,f,bs)=aw ss+aq cs+n3):=by unfold Hid aB;rw [←hn3]
 generalize aB (ss,cs,f,bs)=T at HT;have hA:Below w.heap.size w (w.alloc (.cells #[.slice a0 n0 c0,.slice a1 n1 c1,.bool f,.slice a3 n3 c3] 78)):=(Below.refl _ _).alloc (Nat.le_refl _) _;have hcell:∀j v,(#[Value.slice a0 n0 c0,.slice a1 n1 c1,.bool f,.slice a3 n3 c3])[j]?=some v->(w.alloc (.cells #[.slice a0 n0 c0,.slice a1 n1 c1,.bool f,.slice a3 n3 c3] 78)).cell? ⟨w.heap.size,j,none⟩=some v:=by
  intro j v hv;rw [cell_of_row _ w.heap.size j _ _ (0,0) (heap_alloc_new w _)];exact hv
 have k1:=hcell 1 _ rfl;have k3:=hcell 3 _ rfl;clear hcell;go_enter Try.func51,Try.ntmps51
 go_wp2_with fail
 refine (eP _ _ _ _ ss _ (h0.below hA) hl0 hl1).mono ?_
 rintro e w1 ⟨rfl,hs1⟩;have B1:=Below.andSame hA hs1;have k1':=(hs1.cell _).trans k1;have k3':=(hs1.cell _).trans k3;have z1:w.heap.size<w1.heap.size:=by rw [hs1.size];simp
 clear hs1 k1 k3 hA;by_cases q0:(aw ss:Int)<=left
 . have e0:=aC q0
   go_wp2_with fail
   refine (gl _ E _ _ _ cs _ (h1.below B1) (by omega) (by omega)).mono ?_
   rintro e w2 ⟨rfl,hb2⟩;have B2:=Below.andThen B1 hb2;have k3'':=(hb2.cell (p:=⟨w.heap.size,3,none⟩) z1).trans k3';clear hb2 k1' k3';by_cases q1:(aq cs:Int)<=left-aw ss
   . have e1:=aC q1
     go_wp2_with fail
     refine (bD _ _ _ _ _ (by omega) (by omega) (by omega)).mono ?_
     rintro e w3 ⟨rfl,rfl⟩;by_cases q2:(n3:Int)<=left-aw ss-aq cs
     . have e2:=aC q2
       go_wp2
       go_ret
       exact ⟨ar (by rw [aC (by rw [HT.out];omega),HT.out];omega),B2⟩
     have e2:=ao (left:=left-aw ss-aq cs) (wt:=n3) (by omega);go_wp2
     go_ret
     exact ⟨ar (by rw [ao (by rw [HT.out];omega)]),B2⟩
   have e1:=ao (left:=left-aw ss) (wt:=aq cs) (by omega);go_wp2
   go_ret
   exact ⟨ar (by rw [ao (by rw [HT.out];omega)]),B2⟩
 have e0:=ao (left:=left) (wt:=aw ss) (by omega);go_wp2
 go_ret
 exact ⟨ar (by rw [ao (by rw [HT.out];omega)]),B1⟩
theorem eR (w:World) (a:Option Addr) (n cap:Nat) (d:List (List Int)) (h:aM.Rd w [.slice a n cap] d) (hw:aw d<=1048576):
 Calls Try.prog 78 #[.slice a n cap] w fun e w'=>e=.returned (.slice (some ⟨w.heap.size,0,none⟩) n n)/\aM.Own w' w.heap.size w'.heap.size [.slice (some ⟨w.heap.size,0,none⟩) n n] d/\Below w.heap.size w w':=by
 obtain ⟨hl,hc,hm⟩:=af h;obtain ⟨i0,hi,hz0,hz1,hz2⟩:=info_parts Try.infoIntS;have hn:n<=1048576:=by unfold aw at hw;omega
 have hb3:i0.bytes*n<=281474976710656:=by rw [hz2];omega
 have hm3:n<=maxLen:=by unfold maxLen;omega
 go_enter Try.func78,Try.ntmps78
 go_wp2_with (at_make;refine wpList_make_full _ rfl _ _ 51 rfl w.heap.size 38 i0 (.slice none 0 0) 1 Try.underlying51 hi hz0 hz1 _ _ _ _ n rfl rfl rfl rfl hb3 hm3 (Nat.le_refl _) ?_;intro w1 hown hgrow)
 have hO:=dr (t:=aA) (z:=[]) hown (by omega) rfl (fun _=>.inl ⟨rfl,rfl,rfl⟩);have hB1:Below w.heap.size w w1:=(Below.refl _ _).grown hgrow (Nat.le_refl _) (by simp);clear hown hgrow;go_loopw [4] (fun i wr=>∃j:Nat,j<=n/\i=.int .i64 j/\aM.Own wr w.heap.size wr.heap.size [.slice (some ⟨w.heap.size,0,none⟩) n n] (d.take j++List.replicate (n-j) [])/\Below w.heap.size w wr) (fun i _=>n-(intOf i).toNat)
 case atStart=>exact ⟨0,Nat.zero_le _,rfl,by simpa using hO,hB1⟩
 clear hO hB1;obtain ⟨j,hj,rfl,ho,hb⟩:=hrel;by_cases hjn:j<n
 . rcases cG rfl h with h0'|⟨b,off,rfl,hbl,hcs⟩
   . omega
   have hdj:d[j]?=some (d[j]'(by omega)):=List.getElem?_eq_getElem (by omega);have hlen:(d[j]'(by omega)).length<=1048576:=by
    have h1:=aV (l:=d.map List.length) (j:=j) (x:=(d[j]'(by omega)).length) (by rw [List.getElem?_map,hdj];rfl);have h2:=bq (l:=d.map List.length) (j+1);unfold aw at hw;omega
   have HS:=ci d [] _ j hdj;generalize d[j]'(by omega)=x at hdj hlen HS;rw [hl] at HS;have HS':Hid _:=HS;obtain ⟨v,hv,hrv⟩:=hcs j x hdj;obtain ⟨av,cv,rfl⟩:=ak hrv;have hw0:=(hb.cell (p:=⟨b,off+j,none⟩) hbl).trans hv;obtain ⟨hrr,_,_,_⟩:=ap (hrv.below hb);clear hcs hdj HS hv;go_wp2_with fail
   refine (cS _ _ _ _ x rfl hrr (by omega)).mono ?_
   rintro e w2 ⟨rfl,ho2,hb2⟩;have s2:=hb2.size;obtain ⟨⟨old,hcy⟩,hfy,hst,hbt⟩:=fx rfl (ho.below hb2) hjn (aH ho2) (Nat.le_refl _) s2;rw [HS'.out] at hst;have HST:Hid _:=hst;have HB:=Below.andThen hb hb2;clear ho ho2 hb2 hst hbt hb;go_wp2
   go_roundw
   case rel=>exact ⟨j+1,by omega,by go_num,by first|exact HST.out|(rw [World.size_setCell];exact HST.out),HB.setCell (p:=⟨w.heap.size,j,none⟩) (Nat.le_refl _) _⟩
   case measure=>simp [intOf];omega
 go_wp2
 go_ret
 have e:j=n:=by omega
 subst e;rw [Nat.sub_self,List.replicate_zero,List.append_nil,List.take_of_length_le (by omega)] at ho;exact ⟨rfl,ho,hb⟩
theorem gP (w:World) (x:Int) (a:Option Addr) (n cap:Nat) (zs:List Int) (h:aA.Rd w [.slice a n cap] zs) (hn:n<=1048576):
 Calls Try.prog 96 #[.agg #[.int .i64 x,.slice a n cap]] w fun e w'=>∃g,e=.returned (.agg #[.int .i64 x,.slice (some ⟨g,0,none⟩) n n])/\tWr.Own w' w.heap.size w'.heap.size [.int .i64 x,.slice (some ⟨g,0,none⟩) n n] (x,zs)/\Below w.heap.size w w':=by
 obtain ⟨hr,hl,_,_⟩:=ap h;go_enter Try.func96,Try.ntmps96
 have hA:Below w.heap.size w (((w.alloc (.cells #[.int .i64 x,.slice a n cap] 119)).alloc (.cells #[.int .i64 0,.slice none 0 0] 114)).alloc (.cells #[.int .i64 x,.slice none 0 0] 114)):=
  (((Below.refl _ _).alloc (Nat.le_refl _) _).alloc (by simp) _).alloc (by simp;omega) _
 have hr3:=hr.below hA;go_wp2_with fail
 refine (cS _ _ _ _ zs hl hr3 (by omega)).mono ?_
 rintro e w4 ⟨rfl,ho4,hb4⟩;obtain ⟨hc,hf⟩:=ew hb4;have hz:w.heap.size+1+1<w4.heap.size:=by have:=hb4.size;simp at this;omega
 have HO:=aH ho4;have HB:=hA.trans (hb4.mono (by simp;omega));have e3:(((w.alloc (.cells #[.int .i64 x,.slice a n cap] 119)).alloc (.cells #[.int .i64 0,.slice none 0 0] 114)).alloc (.cells #[.int .i64 x,.slice none 0 0] 114)).heap.size=w.heap.size+1+1+1:=by simp
 rw [e3] at HO;have HO':=ab HO;clear HO ho4 hb4 hA hr3 e3;go_wp2
 have hbt:But w.heap.size (w.heap.size+1+1+1) w4 (((w4.setCell ⟨w.heap.size+1+1,1,none⟩ (.slice (some ⟨w.heap.size+1+1+1,0,none⟩) n n)).setCell ⟨w.heap.size+1,0,none⟩ (.int .i64 x)).setCell ⟨w.heap.size+1,1,none⟩ (.slice (some ⟨w.heap.size+1+1+1,0,none⟩) n n)):=
  ((But.setCell (by omega) (by omega) _).trans (But.setCell (by omega) (by omega) _)).trans (But.setCell (by omega) (by omega) _)
 have hO:=HO'.out.but hbt (.inr (Nat.le_refl _));have hB:=Below.andBut HB hbt (Nat.le_refl _);have hS:=hbt.size;refine bodyPost_ret (v:=.agg #[.int .i64 x,.slice (some ⟨w.heap.size+1+1+1,0,none⟩) n n]) (by simp [results,Try.results96,go_sem,hc]) rfl ⟨_,rfl,?_,hB⟩
 exact bS (t:=cx) (gf _ _ _ _) (hO.widen (lo':=w.heap.size) (by omega) hS) (Nat.le_refl _) (by simp;omega)
theorem gn (w:World) (E:TypeId) (a:Option Addr) (n cap:Nat) (d:List (Int×List Int)) (h:(aP E).Rd w [.slice a n cap] d) (hw:aq d<=1048576):
 Calls Try.prog 79 #[.slice a n cap] w fun e w'=>e=.returned (.slice (some ⟨w.heap.size,0,none⟩) n n)/\(aP 114).Own w' w.heap.size w'.heap.size [.slice (some ⟨w.heap.size,0,none⟩) n n] d/\Below w.heap.size w w':=by
 obtain ⟨hl,hc,hm⟩:=af h;obtain ⟨i0,hi,hz0,hz1,hz2⟩:=info_parts Try.infoWr;have hn:n<=1048576:=by unfold aq at hw;omega
 have hb3:i0.bytes*n<=281474976710656:=by rw [hz2];omega
 have hm3:n<=maxLen:=by unfold maxLen;omega
 go_enter Try.func79,Try.ntmps79
 go_wp2_with (at_make;refine wpList_make_full _ rfl _ _ 52 rfl w.heap.size 114 i0 (.agg #[.int .i64 0,.slice none 0 0]) 2 Try.underlying52 hi hz0 hz1 _ _ _ _ n rfl rfl rfl rfl hb3 hm3 (Nat.le_refl _) ?_;intro w1 hown hgrow)
 have hO:=dr (t:=tWr) (z:=(0,[])) hown (by omega) rfl (fun _=>⟨[],[],rfl,⟨rfl,rfl⟩,.inl ⟨rfl,rfl,rfl⟩,rfl⟩);have hB1:Below w.heap.size w w1:=(Below.refl _ _).grown hgrow (Nat.le_refl _) (by simp);clear hown hgrow;go_loopw [4] (fun i wr=>∃j:Nat,j<=n/\i=.int .i64 j/\(aP 114).Own wr w.heap.size wr.heap.size [.slice (some ⟨w.heap.size,0,none⟩) n n] (d.take j++List.replicate (n-j) (0,[]))/\Below w.heap.size w wr) (fun i _=>n-(intOf i).toNat)
 case atStart=>exact ⟨0,Nat.zero_le _,rfl,by simpa using hO,hB1⟩
 clear hO hB1;obtain ⟨j,hj,rfl,ho,hb⟩:=hrel;by_cases hjn:j<n
 . rcases bf rfl h with h0'|⟨b,off,rfl,hbl,hcs⟩
   . omega
   have hdj:d[j]?=some (d[j]'(by omega)):=List.getElem?_eq_getElem (by omega);have hlen:(d[j]'(by omega)).2.length<=1048576:=by
    have h1:=aV (l:=d.map fun x=>x.2.length) (j:=j) (x:=(d[j]'(by omega)).2.length) (by rw [List.getElem?_map,hdj];rfl);have h2:=bq (l:=d.map fun x=>x.2.length) (j+1);unfold aq at hw;omega
   have HS:=ci d (0,[]) _ j hdj;generalize d[j]'(by omega)=x at hdj hlen HS;rw [hl] at HS;have HS':Hid _:=HS;obtain ⟨v0,v1,hv0,hv1,hrv⟩:=hcs j x hdj;obtain ⟨rfl,hrw⟩:=bZ hrv;obtain ⟨av,cv,rfl⟩:=ak hrw;have hw0:=(hb.cell (p:=⟨b,off+j*2,none⟩) hbl).trans hv0;have hw1:=(hb.cell (p:=⟨b,off+j*2+1,none⟩) hbl).trans hv1;have hrr:=hrw.below hb;obtain ⟨x0,x1⟩:=x;simp only at hw0 hw1 hlen hrr
   clear hcs hdj HS hv0 hv1 hrv hrw;go_wp2_with fail
   refine (gP _ _ _ _ _ x1 hrr (by omega)).mono ?_
   rintro e w2 ⟨g2,rfl,ho2,hb2⟩;have s2:=hb2.size;obtain ⟨⟨old0,hcy0⟩,⟨old1,hcy1⟩,hfy0,hfy1,hst,hbt⟩:=dO rfl (ho.below hb2) hjn ho2 (Nat.le_refl _) s2;rw [HS'.out] at hst;have HST:=ab hst;have HB:=Below.andThen hb hb2;clear ho ho2 hb2 hst hbt hb;go_wp2
   go_roundw
   case rel=>exact ⟨j+1,by omega,by go_num,by first|exact HST.out|(simp only [World.size_setCell];exact HST.out),(HB.setCell (p:=⟨w.heap.size,j*2,none⟩) (Nat.le_refl _) _).setCell (p:=⟨w.heap.size,j*2+1,none⟩) (Nat.le_refl _) _⟩
   case measure=>simp [intOf];omega
 go_wp2
 go_ret
 have e:j=n:=by omega
 subst e;rw [Nat.sub_self,List.replicate_zero,List.append_nil,List.take_of_length_le (by omega)] at ho;exact ⟨rfl,ho,hb⟩
theorem gp (w:World) (E:TypeId) (a0 a1 a3:Option Addr) (n0 c0 n1 c1 n3 c3:Nat) (ss:List (List Int)) (cs:List (Int×List Int)) (f:Bool) (bs:List Int) (h0:aM.Rd w [.slice a0 n0 c0] ss) (h1:(aP E).Rd w [.slice a1 n1 c1] cs) (h3:aA.Rd w [.slice a3 n3 c3] bs) (hw:aB (ss,cs,f,bs)<=1048576):
 Calls Try.prog 53 #[.agg #[.slice a0 n0 c0,.slice a1 n1 c1,.bool f,.slice a3 n3 c3]] w fun e w'=>∃b0 b1 b3,e=.returned (.agg #[.slice b0 n0 n0,.slice b1 n1 n1,.bool f,.slice b3 n3 n3]) /\
  (dP 114).Own w' w.heap.size w'.heap.size [.slice b0 n0 n0,.slice b1 n1 n1,.bool f,.slice b3 n3 n3] (ss,cs,f,bs)/\Below w.heap.size w w':=by
 obtain ⟨hn3,hc3,hm3⟩:=af h3;have hw0:aw ss<=1048576:=by unfold aB at hw;simp only at hw;omega
 have hw1:aq cs<=1048576:=by unfold aB at hw;simp only at hw;omega
 have hw3:n3<=1048576:=by unfold aB at hw;simp only at hw;omega
 have hA:Below w.heap.size w (((w.alloc (.cells #[.slice a0 n0 c0,.slice a1 n1 c1,.bool f,.slice a3 n3 c3] 78)).alloc (.cells #[.slice none 0 0,.slice none 0 0,.bool false,.slice none 0 0] 54)).alloc (.cells #[.slice none 0 0,.slice none 0 0,.bool false,.slice none 0 0] 54)):=
  (((Below.refl _ _).alloc (Nat.le_refl _) _).alloc (by simp) _).alloc (by simp;omega) _
 have e3:(((w.alloc (.cells #[.slice a0 n0 c0,.slice a1 n1 c1,.bool f,.slice a3 n3 c3] 78)).alloc (.cells #[.slice none 0 0,.slice none 0 0,.bool false,.slice none 0 0] 54)).alloc (.cells #[.slice none 0 0,.slice none 0 0,.bool false,.slice none 0 0] 54)).heap.size=w.heap.size+1+1+1:=by simp
 have HE3:=ab e3;clear e3;go_enter Try.func53,Try.ntmps53
 go_wp2_with fail
 refine (eR _ _ _ _ ss (h0.below hA) hw0).mono ?_
 rintro e w4 ⟨rfl,ho4,hb4⟩;obtain ⟨hc4,hf4⟩:=ew hb4;have z4:=hb4.size;rw [HE3.out] at ho4 z4;have z4a:w.heap.size<w4.heap.size:=by omega
 have z4b:w.heap.size+1<w4.heap.size:=by omega
 have z4c:w.heap.size+1+1<w4.heap.size:=by omega
 have B4:=hA.trans (hb4.mono (by rw [HE3.out];omega));have B4':=B4.setCell (p:=⟨w.heap.size+1+1,0,none⟩) (by show _<=_+1+1;omega) (.slice (some ⟨w.heap.size+1+1+1,0,none⟩) n0 n0);have q4:But w.heap.size (w.heap.size+1+1+1) w4 (w4.setCell ⟨w.heap.size+1+1,0,none⟩ (.slice (some ⟨w.heap.size+1+1+1,0,none⟩) n0 n0)):=But.setCell (by omega) (by omega) _;have O4:=ab (ho4.but q4 (.inr (Nat.le_refl _)));have HB4:=ab B4';have H1:=ab (h1.below B4');clear hb4 ho4 hA B4 B4' q4;go_wp2_with fail
 refine (gn _ E _ _ _ cs H1.out hw1).mono ?_
 rintro e w5 ⟨rfl,ho5,hb5⟩;obtain ⟨hc5,hf5⟩:=ew hb5;have z5:=hb5.size;rw [World.size_setCell] at ho5 z5 hc5 hf5;have z5a:w.heap.size<w5.heap.size:=by omega
 have z5b:w.heap.size+1<w5.heap.size:=by omega
 have z5c:w.heap.size+1+1<w5.heap.size:=by omega
 have B5:=Below.andThen HB4.out hb5;have q5:But w.heap.size (w.heap.size+1+1+1) w5 ((w5.setCell ⟨w.heap.size+1+1,1,none⟩ (.slice (some ⟨w4.heap.size,0,none⟩) n1 n1)).setCell ⟨w.heap.size+1+1,2,none⟩ (.bool f)):=(But.setCell (by omega) (by omega) _).trans (But.setCell (by omega) (by omega) _);have O4':=ab ((O4.out.below hb5).but q5 (.inr (Nat.le_refl _)));have O5:=ab (ho5.but q5 (.inr (by omega)));have HB5:=ab (Below.andBut B5 q5 (Nat.le_refl _));have H3:=ab (h3.below HB5.out);clear hb5 ho5 B5 q5 O4 HB4 H1;go_wp2_with fail
 refine (cS _ _ _ _ bs hn3 (ap H3.out).1 (by omega)).mono ?_
 rintro e w6 ⟨rfl,ho6,hb6⟩;obtain ⟨hc6,hf6⟩:=ew hb6;have z6:=hb6.size;have o6:=aH ho6;rw [World.size_setCell,World.size_setCell] at o6 z6 hc6 hf6;have B6:=Below.andThen HB5.out hb6;have z6a:w.heap.size<w6.heap.size:=by omega
 have z6b:w.heap.size+1<w6.heap.size:=by omega
 have z6c:w.heap.size+1+1<w6.heap.size:=by omega
 have O4'':=ab (O4'.out.below hb6);have O5':=ab (O5.out.below hb6);have O6:=ab o6;have HB6:=ab B6;clear hb6 ho6 B6 O4' O5 HB5 H3 o6;go_wp2
 have fin:∀W',But w.heap.size (w.heap.size+1+1+1) w6 W'->(dP 114).Own W' w.heap.size W'.heap.size [.slice (some ⟨w.heap.size+1+1+1,0,none⟩) n0 n0,.slice (some ⟨w4.heap.size,0,none⟩) n1 n1,.bool f,.slice (some ⟨w5.heap.size,0,none⟩) n3 n3] (ss,cs,f,bs)/\Below w.heap.size w W':=by
  intro W' hb;have p0:=O4''.out.but hb (.inr (Nat.le_refl _));have p1:=O5'.out.but hb (.inr (by omega));have p3:=O6.out.but hb (.inr (by omega));have hS:=hb.size;refine ⟨?_,Below.andBut HB6.out hb (Nat.le_refl _)⟩
  exact bS (t:=aM) (vs:=[_]) (p0.widen (by omega) (Nat.le_refl _)) (bS (t:=aP 114) (vs:=[_]) p1 (bS (t:=cQ) (vs:=[_]) (gO _ _ _ _) (p3.widen (Nat.le_refl _) hS) (Nat.le_refl _) (by omega)) (by omega) (by omega)) (by omega) (by omega)
 have fn:=fin _ (((((But.setCell (j:=3) (g:=w.heap.size+1+1) (by omega) (by omega) (.slice (some ⟨w5.heap.size,0,none⟩) n3 n3)).trans (But.setCell (j:=0) (g:=w.heap.size+1) (by omega) (by omega) (.slice (some ⟨w.heap.size+1+1+1,0,none⟩) n0 n0))).trans (But.setCell (j:=1) (g:=w.heap.size+1) (by omega) (by omega) (.slice (some ⟨w4.heap.size,0,none⟩) n1 n1))).trans (But.setCell (j:=2) (g:=w.heap.size+1) (by omega) (by omega) (.bool f))).trans (But.setCell (j:=3) (g:=w.heap.size+1) (by omega) (by omega) (.slice (some ⟨w5.heap.size,0,none⟩) n3 n3)));refine bodyPost_ret (v:=.agg #[.slice (some ⟨w.heap.size+1+1+1,0,none⟩) n0 n0,.slice (some ⟨w4.heap.size,0,none⟩) n1 n1,.bool f,.slice (some ⟨w5.heap.size,0,none⟩) n3 n3]) (by simp [results,Try.results53,go_sem,hc6,hc5,hc4,z5b,z4b]) rfl ⟨_,_,_,rfl,fn.1,fn.2⟩
structure ax (fp:List Nat) (w w':World):Prop where
 os:w'.os=w.os
 tape:w'.tape=w.tape
 output:w'.output=w.output
 size:w.heap.size<=w'.heap.size
 block:∀k,k<w.heap.size->k∉fp->w'.heap[k]?=w.heap[k]?
theorem ax.refl (fp:List Nat) (w:World):ax fp w w:=⟨rfl,rfl,rfl,Nat.le_refl _,fun _ _ _=>rfl⟩
theorem ax.trans {fp:List Nat} {a b c:World} (h:ax fp a b) (k:ax fp b c):ax fp a c:=
 ⟨k.os.trans h.os,k.tape.trans h.tape,k.output.trans h.output,Nat.le_trans h.size k.size,fun i hi ho=>(k.block i (Nat.lt_of_lt_of_le hi h.size) ho).trans (h.block i hi ho)⟩
theorem ax.mono {fp fq:List Nat} {w w':World} (h:ax fp w w') (hs:∀b∈fp,b∈fq):ax fq w w':=
 ⟨h.os,h.tape,h.output,h.size,fun k hk ho=>h.block k hk (fun hm=>ho (hs k hm))⟩
theorem ax.but {fp:List Nat} {w w':World} {lo hi:Nat} (h:ax fp w w') (hs:∀b∈fp,lo<=b/\b<hi):But lo hi w w':=
 ⟨h.os,h.tape,h.output,h.size,fun k hk ho=>h.block k hk (fun hm=>by have:=hs k hm;omega)⟩
theorem ax.setCell {fp:List Nat} {w:World} {g j:Nat} (v:Value) (hg:g∈fp):ax fp w (w.setCell ⟨g,j,none⟩ v):=
 ⟨rfl,rfl,rfl,by simp [World.setCell],fun k _ hk=>Below.heap_setCell _ _ _ _ (by simp;exact fun e=>hk (e▸hg))⟩
theorem aG.turned {w w':World} (h:aG w w') (fp:List Nat):ax fp w w':=⟨h.os,h.tape,h.output,by rw [h.heap];exact Nat.le_refl _,fun _ _ _=>by rw [h.heap]⟩
def Ty.Mine (t:Ty) (w:World) (vs:List Value) (d:t.D) (fp:List Nat):Prop:=t.ow w vs d fp/\fp.Nodup
theorem Ty.Mine.rd {t:Ty} {w:World} {vs:List Value} {d:t.D} {fp:List Nat} (h:t.Mine w vs d fp):t.Rd w vs d:=⟨fp,t.owRd h.1⟩
theorem Ty.Mine.lt {t:Ty} {w:World} {vs:List Value} {d:t.D} {fp:List Nat} (h:t.Mine w vs d fp):∀b∈fp,b<w.heap.size:=t.rdLt (t.owRd h.1)
theorem Ty.Mine.kept {t:Ty} {w w':World} {vs:List Value} {d:t.D} {fp fq:List Nat} (h:t.Mine w vs d fp) (ht:ax fq w w') (hd:∀b∈fp,b∉fq):t.Mine w' vs d fp:=⟨t.owKept h.1 (fun b hb=>ht.block b (h.lt b hb) (hd b hb)) ht.size,h.2⟩
theorem Ty.Own.mine {t:Ty} {w:World} {lo hi:Nat} {vs:List Value} {d:t.D} (h:t.Own w lo hi vs d):∃fp,t.Mine w vs d fp/\∀b∈fp,lo<=b/\b<hi:=by
 obtain ⟨fp,h1,h2,h3⟩:=h;exact ⟨fp,⟨h1,h2⟩,h3⟩
theorem Ty.Mine.own {t:Ty} {w:World} {lo hi:Nat} {vs:List Value} {d:t.D} {fp:List Nat} (h:t.Mine w vs d fp) (hr:∀b∈fp,lo<=b/\b<hi):t.Own w lo hi vs d:=⟨fp,h.1,h.2,hr⟩
theorem cN {t u:Ty} {w:World} {vs us:List Value} {x:t.D} {y:u.D} {fp:List Nat} (ht:vs.length=t.n) (h:(bX t u).Mine w (vs++us) (x,y) fp):∃f1 f2,fp=f1++f2/\t.Mine w vs x f1/\u.Mine w us y f2/\∀b∈f1,b∉f2:=by
 obtain ⟨⟨f1,f2,hf,h1,h2,_⟩,hn⟩:=h;rw [List.take_left' ht] at h1;rw [List.drop_left' ht] at h2;rw [hf,List.nodup_append] at hn;exact ⟨f1,f2,hf,⟨h1,hn.1⟩,⟨h2,hn.2.1⟩,fun b hb hb'=>hn.2.2 b hb b hb' rfl⟩
theorem bI {t u:Ty} {w:World} {vs us:List Value} {x:t.D} {y:u.D} {f1 f2:List Nat} (h1:t.Mine w vs x f1) (h2:u.Mine w us y f2) (hd:∀b∈f1,b∉f2):(bX t u).Mine w (vs++us) (x,y) (f1++f2):=by
 have l1:=t.rdLen (t.owRd h1.1);have l2:=u.rdLen (u.owRd h2.1);refine ⟨⟨f1,f2,rfl,by rw [List.take_left' l1];exact h1.1,by rw [List.drop_left' l1];exact h2.1,by rw [List.length_append,l1,l2]⟩,?_⟩
 rw [List.nodup_append];exact ⟨h1.2,h2.2,fun a ha b hb e=>hd a ha (e▸hb)⟩
theorem dt {t:Ty} {E:TypeId} {w:World} {g n cap j:Nat} {d:List t.D} {x:t.D} {fp:List Nat} (hM:(bi t E).Mine w [.slice (some ⟨g,0,none⟩) n cap] d fp) (hx:d[j]?=some x):
 ∃cs f,t.Mine w cs x f/\g∉f/\g∈fp/\(∀b∈f,b∈fp)/\(∀k,k<t.n->w.cell? ⟨g,j*t.n+k,none⟩=cs[k]?)/\(∀k,w.frozen? ⟨g,k,none⟩=false) /\
  (∀w' x',t.Mine w' cs x' f->(∀b∈fp,b∉f->w'.heap[b]?=w.heap[b]?)->w.heap.size<=w'.heap.size->(bi t E).Mine w' [.slice (some ⟨g,0,none⟩) n cap] (d.set j x') fp) /\
  (∀w' cs' x',t.Mine w' cs' x' f->(∀b∈fp,b∉f->b≠g->w'.heap[b]?=w.heap[b]?)->w.heap.size<=w'.heap.size ->
   (∀cur,w.heap[g]?=some (.cells cur E (0,0))->cur.size=cap*t.n->n<=cap->∃cur',w'.heap[g]?=some (.cells cur' E (0,0))/\cur'.size=cur.size/\∀k,cur'.toList[k]?=if j*t.n<=k/\k<(j+1)*t.n then cs'[k-j*t.n]? else cur.toList[k]?) ->
   (bi t E).Mine w' [.slice (some ⟨g,0,none⟩) n cap] (d.set j x') fp):=by
 obtain ⟨h,hn⟩:=hM;have hN:=hn;rcases h with ⟨h1,_⟩|⟨b,cap',cur,fps,h1,h2,h3,h4,h5,h6,h7,h8⟩
 . simp at h1
 simp only [List.cons.injEq,Value.slice.injEq,Option.some.injEq,Addr.mk.injEq,and_true] at h1
 obtain ⟨rfl,rfl,rfl⟩:=h1;obtain ⟨f,hf,ho⟩:=h8 j x hx;rw [h6,List.nodup_cons] at hn;obtain ⟨hg,hnf⟩:=hn;obtain ⟨f1,f2,f3⟩:=eG hnf hf;have hgf:g∉f:=fun hm=>hg (f2 g hm);have hgp:g∈fp:=by rw [h6];exact List.mem_cons_self
 have hfp:∀b∈f,b∈fp:=fun b hb=>by rw [h6];exact List.mem_cons_of_mem _ (f2 b hb)
 have hjl:j<d.length:=(List.getElem?_eq_some_iff.1 hx).1;have hyx:∀x' y,(d.set j x')[j]?=some y->y=x':=fun x' y hy=>by
  rw [List.getElem?_set_self hjl] at hy;simpa using hy.symm
 have hin:∀i f',fps[i]?=some f'->∀b∈f',b∈fp/\b≠g:=fun i f' hf' b hb=>by
  have hm:b∈fps.flatten:=List.mem_flatten.2 ⟨f',List.mem_of_getElem? hf',hb⟩;exact ⟨by rw [h6];exact List.mem_cons_of_mem _ hm,fun e=>hg (e▸hm)⟩
 refine ⟨_,f,⟨ho,f1⟩,hgf,hgp,hfp,fun k hk=>?_,fun k=>frozen_of_row w g _ cur E h4,fun w' x' ho' hoth hsz=>?_,fun w' cs' x' ho' hoth hsz hnew=>?_⟩
 . rw [cell_of_row w g _ cur E (0,0) h4,List.getElem?_take,if_pos hk,List.getElem?_drop]
   simp
 . refine ⟨.inr ⟨g,cap,cur,fps,by rw [List.length_set],by rw [List.length_set];exact h2,h3,by rw [hoth g hgp hgf];exact h4,h5,h6,by rw [List.length_set];exact h7,fun i y hy=>?_⟩,hN⟩
   by_cases hij:i=j
   . subst hij
     rw [hyx x' y hy];exact ⟨f,hf,ho'.1⟩
   rw [List.getElem?_set_ne (fun e=>hij e.symm)] at hy;obtain ⟨f',hf',ho2⟩:=h8 i y hy;exact ⟨f',hf',t.owKept ho2 (fun b hb=>hoth b (hin i f' hf' b hb).1 (f3 i f' hf' hij b hb)) hsz⟩
 obtain ⟨cur',hc1,hc2,hc3⟩:=hnew cur h4 h5 h2;have hvl:=t.rdLen (t.owRd ho'.1);have hpart:∀i,((cur'.toList.drop (i*t.n)).take t.n)=if i=j then cs' else (cur.toList.drop (i*t.n)).take t.n:=by
  intro i;apply List.ext_getElem?
  intro k;rw [List.getElem?_take,List.getElem?_drop,hc3];by_cases hk:k<t.n
  . rw [if_pos hk]
    by_cases hij:i=j
    . subst hij
      rw [if_pos rfl,if_pos (by rw [Nat.add_mul];omega),Nat.add_sub_cancel_left]
    rw [if_neg hij,List.getElem?_take,if_pos hk,List.getElem?_drop,if_neg];intro hh;rcases Nat.lt_or_gt_of_ne hij with hlt|hgt
    . have:(i+1)*t.n<=j*t.n:=Nat.mul_le_mul_right _ hlt
      rw [Nat.add_mul] at this;omega
    have:(j+1)*t.n<=i*t.n:=Nat.mul_le_mul_right _ hgt;omega
  rw [if_neg hk];by_cases hij:i=j
  . rw [if_pos hij,List.getElem?_eq_none (by omega)]
  rw [if_neg hij,List.getElem?_take,if_neg hk]
 refine ⟨.inr ⟨g,cap,cur',fps,by rw [List.length_set],by rw [List.length_set];exact h2,h3,hc1,by rw [hc2];exact h5,h6,by rw [List.length_set];exact h7,fun i y hy=>?_⟩,hN⟩
 rw [hpart i];by_cases hij:i=j
 . subst hij
   rw [if_pos rfl,hyx x' y hy];exact ⟨f,hf,ho'.1⟩
 rw [if_neg hij];rw [List.getElem?_set_ne (fun e=>hij e.symm)] at hy;obtain ⟨f',hf',ho2⟩:=h8 i y hy;exact ⟨f',hf',t.owKept ho2 (fun b hb=>hoth b (hin i f' hf' b hb).1 (f3 i f' hf' hij b hb) (hin i f' hf' b hb).2) hsz⟩
theorem ck {t:Ty} {E:TypeId} {w:World} {n cap:Nat} {a:Option Addr} {d:List t.D} {fp:List Nat} (h:(bi t E).Mine w [.slice a n cap] d fp):n=0∨∃g,a=some ⟨g,0,none⟩:=by
 rcases h.1 with ⟨h1,_⟩|⟨b,cap',cur,fps,h1,_⟩
 . simp at h1
   exact .inl h1.2.1
 simp at h1
 exact .inr ⟨b,h1.1⟩
def du {α:Type} (c:α->Nat) (mk:Int->α->α):Int->List α->List α
 | _,[]=>[]
 | k,x :: l=>mk k x :: du c mk (k+(c x:Int)) l
theorem cl {α:Type} (c:α->Nat) (mk:Int->α->α) (k:Int) (l:List α):(du c mk k l).length=l.length:=by
 induction l generalizing k with
 | nil=>rfl
 | cons x l ih=>simp [du,ih]
theorem dv {α:Type} {c:α->Nat} {mk:Int->α->α} {k:Int} {l:List α} {j:Nat} {x:α} (h:l[j]?=some x):(du c mk k l)[j]?=some (mk (k+(aE ((l.map c).take j):Int)) x):=by
 induction l generalizing k j with
 | nil=>simp at h
 | cons y l ih=>
  match j,h with
  | 0,h=>
   simp at h
   subst h;simp [du,aE]
  | j+1,h=>
   have:=ih (k:=k+(c y:Int)) (j:=j) (by simpa using h);simp only [du,List.getElem?_cons_succ,this,List.map_cons,List.take_succ_cons,aE,List.foldr_cons]
   congr 2
   rw [Int.natCast_add];omega
theorem dd {α:Type} {m d:List α} {j:Nat} {y:α} (hl:m.length=d.length) (h:m[j]?=some y):(m.take j++d.drop j).set j y=m.take (j+1)++d.drop (j+1):=by
 have hj:j<m.length:=(List.getElem?_eq_some_iff.1 h).1;have hlt:(m.take j).length=j:=by simp;omega
 rw [List.set_append,if_neg (by omega),hlt,Nat.sub_self,List.drop_eq_getElem_cons (by omega),List.set_cons_zero,List.take_succ_eq_append_getElem hj,List.append_assoc];rw [List.getElem?_eq_getElem hj] at h;simp at h
 rw [h];rfl
theorem dM {α:Type} {m d:List α} {j:Nat} {x:α} (hl:m.length=d.length) (h:d[j]?=some x):(m.take j++d.drop j)[j]?=some x:=by
 have hj:j<d.length:=(List.getElem?_eq_some_iff.1 h).1;rw [List.getElem?_append_right (by simp;omega),List.getElem?_drop];rw [show j+(j-(m.take j).length)=j by simp;omega];exact h
end Go.Proofs.Ytfimpohbpccjaaa
