/-
 Both GetSuper (the program's and the specification's) answer as the definitions here say. Condition: at most 2097152 words.
-/
import Derived.Test.YtejokiafgbjdaaaGreatRowFailsBentSq5
import Derived.Test.YtejokiafgbjdaaaGreatRowFailsBentSq2
import Derived.Test.YtejokiafgbjdaaaGreatRowFailsBentSq6
import Derived.Laws.IdiomCopy

set_option maxRecDepth 100000
set_option maxHeartbeats 8000000
set_option linter.unusedSimpArgs false

namespace Go.Proofs.YtejokiafgbjdaaaGreat
open Go.RowKit

def Ty.In (t:Ty) (w:World) (lo hi:Nat) (vs:List Value) (d:t.D):Prop:=∃fp,t.rd w vs d fp/\∀b∈fp,lo<=b/\b<hi
theorem Ty.In.rd {t:Ty} {w:World} {lo hi:Nat} {vs:List Value} {d:t.D} (h:t.In w lo hi vs d):t.Rd w vs d:=by
 obtain ⟨fp,h,_⟩:=h;exact ⟨fp,h⟩
theorem Ty.Own.toIn {t:Ty} {w:World} {lo hi:Nat} {vs:List Value} {d:t.D} (h:t.Own w lo hi vs d):t.In w lo hi vs d:=by
 obtain ⟨fp,h,_,hr⟩:=h;exact ⟨fp,t.owRd h,hr⟩
theorem Ty.Mine.toIn {t:Ty} {w:World} {lo hi:Nat} {vs:List Value} {d:t.D} {fp:List Nat} (h:t.Mine w vs d fp) (hr:∀b∈fp,lo<=b/\b<hi):t.In w lo hi vs d:=⟨fp,t.owRd h.1,hr⟩
theorem Ty.In.but {t:Ty} {w w':World} {lo hi l h':Nat} {vs:List Value} {d:t.D} (h:t.In w lo hi vs d) (hb:But l h' w w') (hd:hi<=l∨h'<=lo):t.In w' lo hi vs d:=by
 obtain ⟨fp,h,hr⟩:=h;exact ⟨fp,t.rdKept h (fun b hb'=>hb.block b (t.rdLt h b hb') (by have:=hr b hb';omega)) hb.size,hr⟩
theorem Ty.In.below {t:Ty} {w w':World} {lo hi:Nat} {vs:List Value} {d:t.D} (h:t.In w lo hi vs d) (hb:Below w.heap.size w w'):t.In w' lo hi vs d:=by
 obtain ⟨fp,h,hr⟩:=h;exact ⟨fp,t.rdKept h (fun b hb'=>hb.block b (t.rdLt h b hb')) hb.size,hr⟩
theorem Ty.In.under {t:Ty} {w w':World} {lo hi N:Nat} {vs:List Value} {d:t.D} (h:t.In w lo hi vs d) (hb:Below N w w') (hN:hi<=N):t.In w' lo hi vs d:=by
 obtain ⟨fp,h,hr⟩:=h;exact ⟨fp,t.rdKept h (fun b hb'=>hb.block b (by have:=hr b hb';omega)) hb.size,hr⟩
theorem Ty.In.turned {t:Ty} {w w':World} {lo hi:Nat} {vs:List Value} {d:t.D} {fq:List Nat} (h:t.In w lo hi vs d) (ht:aq fq w w') (hd:∀b∈fq,b<lo∨hi<=b):t.In w' lo hi vs d:=by
 obtain ⟨fp,h,hr⟩:=h;exact ⟨fp,t.rdKept h (fun b hb'=>ht.block b (t.rdLt h b hb') (fun hm=>by have h1:=hr b hb';have h2:=hd b hm;omega)) ht.size,hr⟩
theorem Ty.In.widen {t:Ty} {w:World} {lo hi lo' hi':Nat} {vs:List Value} {d:t.D} (h:t.In w lo hi vs d) (h1:lo'<=lo) (h2:hi<=hi'):t.In w lo' hi' vs d:=by
 obtain ⟨fp,h,hr⟩:=h;exact ⟨fp,h,fun b hb=>by have:=hr b hb;omega⟩
theorem nil_in {t:Ty} {E:TypeId} (w:World) (lo hi:Nat) (a:Addr):(bH t E).In w lo hi [.slice (some a) 0 0] []:=⟨[],⟨some a,0,rfl,Nat.le_refl _,by omega,.inl ⟨rfl,rfl,fun h=>by cases h⟩⟩,by simp⟩
theorem ne {w:World} {E:TypeId} {lo hi:Nat} {v0 v1 v3:Value} {f:Bool} {ss:List (List Int)} {cs:List (Int×List Int)} {bs:List Int} (h:(bC E).Own w lo hi [v0,v1,.bool f,v3] (ss,cs,f,bs)):
 ∃f0 f1 f3,aR.Mine w [v0] ss f0/\(aU E).Mine w [v1] cs f1/\aA.Mine w [v3] bs f3/\(∀b∈f0,lo<=b/\b<hi/\b∉f1/\b∉f3)/\(∀b∈f1,lo<=b/\b<hi/\b∉f0/\b∉f3)/\∀b∈f3,lo<=b/\b<hi/\b∉f0/\b∉f1:=by
 obtain ⟨fp,h,hr⟩:=h.mine;obtain ⟨f0,g1,rfl,m0,h,d0⟩:=eg (t:=aR) (u:=dO (aU E) (dO eY aA)) (vs:=[_]) (us:=[_,_,_]) rfl h;obtain ⟨f1,g2,rfl,m1,h,d1⟩:=eg (t:=aU E) (u:=dO eY aA) (vs:=[_]) (us:=[_,_]) rfl h;obtain ⟨fb,f3,rfl,_,m3,_⟩:=eg (t:=eY) (u:=aA) (vs:=[_]) (us:=[_]) rfl h;refine ⟨f0,f1,f3,m0,m1,m3,fun b hb=>?_,fun b hb=>?_,fun b hb=>?_⟩
 . have h1:=hr b (by simp [hb])
   have h2:=d0 b hb;simp at h2
   exact ⟨h1.1,h1.2,h2.1,h2.2.2⟩
 . have h1:=hr b (by simp [hb])
   have h2:=d1 b hb;simp at h2
   refine ⟨h1.1,h1.2,fun hm=>?_,h2.2⟩
   have:=d0 b hm;simp [hb] at this
 have h1:=hr b (by simp [hb]);refine ⟨h1.1,h1.2,fun hm=>?_,fun hm=>?_⟩
 . have:=d0 b hm
   simp [hb] at this
 have:=d1 b hm;simp [hb] at this
theorem cH (w:World) (a0:Option Addr) (n0 c0:Nat) (v1 v2 v3:Value) (x:Int):
 Calls Tryz.prog 141 #[.agg #[.slice a0 n0 c0,v1,v2,v3],.int .i64 x] w fun e w'=>e=.returned (.bool (inB x 0 ((n0:Int)-1)))/\Below w.heap.size w w':=by
 have hA:Below w.heap.size w (w.alloc (.cells #[.slice a0 n0 c0,v1,v2,v3] 78)):=(Below.refl _ _).alloc (Nat.le_refl _) _;have hcell:(w.alloc (.cells #[.slice a0 n0 c0,v1,v2,v3] 78)).cell? ⟨w.heap.size,0,none⟩=some (.slice a0 n0 c0):=by
  rw [cell_of_row _ w.heap.size 0 _ _ (0,0) (heap_alloc_new w _)];rfl
 by_cases h0:0<=x
 . by_cases h1:x<(n0:Int)
   . go_enter Tryz.func141,Tryz.ntmps141
     go_wp2
     go_ret
     exact ⟨ag (by symm;unfold inB;simp;omega),hA⟩
   go_enter Tryz.func141,Tryz.ntmps141
   go_wp2
   go_ret
   exact ⟨ag (by symm;unfold inB;simp;omega),hA⟩
 go_enter Tryz.func141,Tryz.ntmps141
 go_wp2
 go_ret
 exact ⟨ag (by symm;unfold inB;simp;omega),hA⟩
theorem rT (w:World) (a0:Option Addr) (n0 c0:Nat) (v1 v2:Value) (a3:Option Addr) (n3 c3:Nat) (bs:List Int) (h3:aA.Rd w [.slice a3 n3 c3] bs):
 Calls Tryz.prog 192 #[.agg #[.slice a0 n0 c0,v1,v2,.slice a3 n3 c3]] w fun e w'=>e=.returned (.bool (gZ n0 bs))/\Below w.heap.size w w':=by
 obtain ⟨hl3,_,hm3⟩:=ae h3;have hA:Below w.heap.size w (w.alloc (.cells #[.slice a0 n0 c0,v1,v2,.slice a3 n3 c3] 78)):=(Below.refl _ _).alloc (Nat.le_refl _) _;have hcell:∀j v,(#[Value.slice a0 n0 c0,v1,v2,.slice a3 n3 c3])[j]?=some v->(w.alloc (.cells #[.slice a0 n0 c0,v1,v2,.slice a3 n3 c3] 78)).cell? ⟨w.heap.size,j,none⟩=some v:=by
  intro j v hv;rw [cell_of_row _ w.heap.size j _ _ (0,0) (heap_alloc_new w _)];exact hv
 have k0:=hcell 0 _ rfl;have k1:=hcell 1 _ rfl;have k2:=hcell 2 _ rfl;have k3:=hcell 3 _ rfl;have g3:=h3.below hA;have hz:w.heap.size<(w.alloc (.cells #[.slice a0 n0 c0,v1,v2,.slice a3 n3 c3] 78)).heap.size:=by simp
 go_enter Tryz.func192,Tryz.ntmps192
 go_wp2
 generalize hW:w.alloc (.cells #[.slice a0 n0 c0,v1,v2,.slice a3 n3 c3] 78)=W at hA k0 k1 k2 k3 g3 hz ⊢;clear hW hcell h3;go_loopw [8] (fun i wr=>∃i3:Nat,i3<=n3/\i=.int .i64 i3/\(List.range i3).all (dq n0 bs)=true/\Below W.heap.size W wr) (fun i _=>n3-(intOf i).toNat)
 case atStart=>exact ⟨0,Nat.zero_le _,rfl,rfl,Below.refl _ _⟩
 obtain ⟨i3,hi3,rfl,ht,hs⟩:=hrel;have q0:=(hs.cell (p:=⟨w.heap.size,0,none⟩) hz).trans k0;have q1:=(hs.cell (p:=⟨w.heap.size,1,none⟩) hz).trans k1;have q2:=(hs.cell (p:=⟨w.heap.size,2,none⟩) hz).trans k2;have q3:=(hs.cell (p:=⟨w.heap.size,3,none⟩) hz).trans k3;have hzr:w.heap.size<wr.heap.size:=Nat.lt_of_lt_of_le hz hs.size;by_cases hi3n:i3<n3
 . obtain ⟨R3,_,_,_⟩:=aO g3
   rcases R3.cases with h0'|⟨b,off,rfl,hbl,hcs⟩
   . omega
   have hbr:b<wr.heap.size:=Nat.lt_of_lt_of_le hbl hs.size;have p0:=(hs.cell (p:=⟨b,off+i3,none⟩) hbl).trans (hcs i3 (by omega));have HT:=aa ht;have hrs:(List.range (i3+1)).all (dq n0 bs)=((List.range i3).all (dq n0 bs)&&dq n0 bs i3):=by rw [List.range_succ,List.all_append];simp
   have hrn:dq n0 bs i3=false->gZ n0 bs=false:=by
    intro h;unfold gZ;rw [List.all_eq_false];exact ⟨i3,by simp;omega,by simp [h]⟩
   have hbd:dq n0 bs i3=(inB (bs.getD i3 0) 0 ((n0:Int)-1)&&(decide (i3=0)||decide (bs.getD (i3-1) 0<bs.getD i3 0))):=rfl;have i1:(0:Int)<=(i3:Int):=by omega
   have i2':(i3:Int)<(n3:Int):=by omega
   by_cases hI:inB (bs.getD i3 0) 0 ((n0:Int)-1)=true
   . by_cases hz3:i3=0
     . have HD:Hid ((List.range (i3+1)).all (dq n0 bs)=true):=by unfold Hid;rw [hrs,HT.out,hbd,hI,decide_eq_true hz3];rfl
       generalize bs.getD i3 0=y at p0 hI;have d0:decide ((0:Int)<(i3:Int))=false:=decide_eq_false (by omega);have d0b:decide (0<i3)=false:=decide_eq_false (by omega);have HZ:=aa hz3;clear hcs ht hrs hrn hbd hz3 R3;go_wp2_with fail
       refine (cH _ _ _ _ _ _ _ _).mono ?_
       rintro e w5 ⟨rfl,hb5'⟩;have r0:=(hb5'.cell (p:=⟨w.heap.size,0,none⟩) hzr).trans q0;have r1:=(hb5'.cell (p:=⟨w.heap.size,1,none⟩) hzr).trans q1;have r2:=(hb5'.cell (p:=⟨w.heap.size,2,none⟩) hzr).trans q2;have r3:=(hb5'.cell (p:=⟨w.heap.size,3,none⟩) hzr).trans q3;have hs5:=hs.trans (hb5'.mono hs.size);clear q0 q1 q2 q3 hb5';go_wp2
       go_roundw
       case rel=>exact ⟨i3+1,by omega,by go_num,HD.out,hs5⟩
       case measure=>simp [intOf];omega
     have p1:=(hs.cell (p:=⟨b,off+(i3-1),none⟩) hbl).trans (hcs (i3-1) (by omega));have d0:decide ((0:Int)<(i3:Int))=true:=decide_eq_true (by omega);have d0b:decide (0<i3)=true:=decide_eq_true (by omega);have gv:IntKind.i64.wrap ((i3:Int)-1)=(i3:Int)-1:=IntWalk.i64_in _ (by omega);have gt:((i3:Int)-1).toNat=i3-1:=by omega
     have i3a:(0:Int)<=(i3:Int)-1:=by omega
     have i3b:(i3:Int)-1<(n3:Int):=by omega
     by_cases hlt:bs.getD (i3-1) 0<bs.getD i3 0
     . have HD:Hid ((List.range (i3+1)).all (dq n0 bs)=true):=by unfold Hid;rw [hrs,HT.out,hbd,hI,decide_eq_true hlt];simp
       generalize bs.getD i3 0=y at p0 hI hlt;generalize bs.getD (i3-1) 0=z at p1 hlt;have d1:¬y<=z:=by omega
       clear hcs ht hrs hrn hbd hz3 R3;go_wp2_with fail
       refine (cH _ _ _ _ _ _ _ _).mono ?_
       rintro e w5 ⟨rfl,hb5'⟩;have r0:=(hb5'.cell (p:=⟨w.heap.size,0,none⟩) hzr).trans q0;have r1:=(hb5'.cell (p:=⟨w.heap.size,1,none⟩) hzr).trans q1;have r2:=(hb5'.cell (p:=⟨w.heap.size,2,none⟩) hzr).trans q2;have r3:=(hb5'.cell (p:=⟨w.heap.size,3,none⟩) hzr).trans q3;have p2:=(hb5'.cell (p:=⟨b,off+(i3-1),none⟩) hbr).trans p1;have hs5:=hs.trans (hb5'.mono hs.size);clear q0 q1 q2 q3 hb5';go_wp2
       go_roundw
       case rel=>exact ⟨i3+1,by omega,by go_num,HD.out,hs5⟩
       case measure=>simp [intOf];omega
     have HN:=aa (hrn (by rw [hbd,hI,decide_eq_false hz3,decide_eq_false hlt];rfl));generalize bs.getD i3 0=y at p0 hI hlt;generalize bs.getD (i3-1) 0=z at p1 hlt;have d1:y<=z:=by omega
     clear hcs ht hrs hrn hbd hz3 R3;go_wp2_with fail
     refine (cH _ _ _ _ _ _ _ _).mono ?_
     rintro e w5 ⟨rfl,hb5'⟩;have r0:=(hb5'.cell (p:=⟨w.heap.size,0,none⟩) hzr).trans q0;have r1:=(hb5'.cell (p:=⟨w.heap.size,1,none⟩) hzr).trans q1;have r2:=(hb5'.cell (p:=⟨w.heap.size,2,none⟩) hzr).trans q2;have r3:=(hb5'.cell (p:=⟨w.heap.size,3,none⟩) hzr).trans q3;have p2:=(hb5'.cell (p:=⟨b,off+(i3-1),none⟩) hbr).trans p1;have hs5:=hs.trans (hb5'.mono hs.size);clear q0 q1 q2 q3 hb5';go_wp2
     go_ret
     exact ⟨ag HN.out.symm,Below.andThen hA hs5⟩
   have hI:inB (bs.getD i3 0) 0 ((n0:Int)-1)=false:=by simpa using hI
   have HN:=aa (hrn (by rw [hbd,hI];rfl));generalize bs.getD i3 0=y at p0 hI;clear hcs ht hrs hrn hbd R3;go_wp2_with fail
   refine (cH _ _ _ _ _ _ _ _).mono ?_
   rintro e w5 ⟨rfl,hb5'⟩;have r0:=(hb5'.cell (p:=⟨w.heap.size,0,none⟩) hzr).trans q0;have r1:=(hb5'.cell (p:=⟨w.heap.size,1,none⟩) hzr).trans q1;have r2:=(hb5'.cell (p:=⟨w.heap.size,2,none⟩) hzr).trans q2;have r3:=(hb5'.cell (p:=⟨w.heap.size,3,none⟩) hzr).trans q3;have hs5:=hs.trans (hb5'.mono hs.size);clear q0 q1 q2 q3 hb5';go_wp2
   go_ret
   exact ⟨ag HN.out.symm,Below.andThen hA hs5⟩
 have e3:i3=n3:=by omega
 have HB:Hid (gZ n0 bs=true):=by unfold Hid gZ;rw [hl3,←e3];exact ht
 clear ht hi3;go_wp2
 go_ret
 exact ⟨ag HB.out.symm,Below.andThen hA hs⟩
theorem bg (w:World) (E:TypeId) (a0 a1 a3:Option Addr) (n0 c0 n1 c1 n3 c3:Nat) (ss:List (List Int)) (cs:List (Int×List Int)) (f:Bool) (bs:List Int) (h0:aR.Rd w [.slice a0 n0 c0] ss) (h1:(aU E).Rd w [.slice a1 n1 c1] cs) (h3:aA.Rd w [.slice a3 n3 c3] bs) (hw:aJ (ss,cs,f,bs)<=2097152):
 Calls Tryz.prog 140 #[.agg #[.slice a0 n0 c0,.slice a1 n1 c1,.bool f,.slice a3 n3 c3]] w fun e w'=>e=.returned (.bool (aW ss cs bs))/\Below w.heap.size w w':=by
 obtain ⟨hl0,_,hm0⟩:=ae h0;obtain ⟨hl1,_,hm1⟩:=ae h1;obtain ⟨hl3,_,hm3⟩:=ae h3;have hw0:cB ss<=2097152:=by unfold aJ at hw;simp only at hw;omega
 have hw1:aY cs<=2097152:=by unfold aJ at hw;simp only at hw;omega
 have hA:Below w.heap.size w (w.alloc (.cells #[.slice a0 n0 c0,.slice a1 n1 c1,.bool f,.slice a3 n3 c3] 78)):=(Below.refl _ _).alloc (Nat.le_refl _) _;have hcell:∀j v,(#[Value.slice a0 n0 c0,.slice a1 n1 c1,.bool f,.slice a3 n3 c3])[j]?=some v->(w.alloc (.cells #[.slice a0 n0 c0,.slice a1 n1 c1,.bool f,.slice a3 n3 c3] 78)).cell? ⟨w.heap.size,j,none⟩=some v:=by
  intro j v hv;rw [cell_of_row _ w.heap.size j _ _ (0,0) (heap_alloc_new w _)];exact hv
 have k0:=hcell 0 _ rfl;have k1:=hcell 1 _ rfl;have k2:=hcell 2 _ rfl;have k3:=hcell 3 _ rfl;have g0:=h0.below hA;have g1:=h1.below hA;have g3:=h3.below hA;have hz:w.heap.size<(w.alloc (.cells #[.slice a0 n0 c0,.slice a1 n1 c1,.bool f,.slice a3 n3 c3] 78)).heap.size:=by simp
 by_cases c1':(1:Int)<=(n0:Int)
 . by_cases c2':(n0:Int)<=20
   . by_cases c3':(n1:Int)<=60
     . have hI0:inB (ss.length:Int) 1 20=true:=by unfold inB;rw [hl0];simp;omega
       have hI1:decide (cs.length<=60)=true:=decide_eq_true (by omega);have HI0:=aa hI0;have HI1:=aa hI1;clear hI0 hI1;go_enter Tryz.func140,Tryz.ntmps140
       go_wp2
       generalize hW:w.alloc (.cells #[.slice a0 n0 c0,.slice a1 n1 c1,.bool f,.slice a3 n3 c3] 78)=W at hA k0 k1 k2 k3 g0 g1 g3 hz ⊢;clear hW hcell h0 h1 h3;go_loopw [26] (fun i wr=>∃j:Nat,j<=n0/\i=.int .i64 j/\(ss.take j).all da=true/\aH W wr) (fun i _=>n0-(intOf i).toNat)
       case atStart=>exact ⟨0,Nat.zero_le _,rfl,rfl,aH.refl _⟩
       obtain ⟨j,hj,rfl,ht,hs⟩:=hrel;by_cases hjn:j<n0
       . rcases gX rfl g0 with h0'|⟨b,off,rfl,hbl,hcs⟩
         . omega
         have hdj:ss[j]?=some (ss[j]'(by omega)):=List.getElem?_eq_getElem (by omega);generalize ss[j]'(by omega)=x at hdj;have hal:=jm (p:=da) hdj;have hil:=fC hdj;obtain ⟨v,hv,hrv⟩:=hcs j x hdj;obtain ⟨av,cv,rfl⟩:=aw hrv;have q1:=(hs.cell ⟨b,off+j,none⟩).trans hv;obtain ⟨r1,_,_,_⟩:=aO (hrv.same hs);have HT:=aa ht;clear hcs hdj hv hrv ht;by_cases hx:da x=true
         . have HD:=aa (hal.1 hx HT.out)
           clear hal;go_wp2_with fail
           refine (bZ _ _ _ _ x rfl r1 (by omega)).mono ?_
           rintro e w1 ⟨rfl,hs1⟩;go_wp2
           go_roundw
           case rel=>exact ⟨j+1,by omega,by go_num,HD.out,hs.trans hs1⟩
           case measure=>simp [intOf];omega
         have hx:da x=false:=by simpa using hx
         have HN:=aa (hal.2 hx);clear hal;go_wp2_with fail
         refine (bZ _ _ _ _ x rfl r1 (by omega)).mono ?_
         rintro e w1 ⟨rfl,hs1⟩;go_wp2
         go_ret
         exact ⟨ag (by unfold aW;rw [HN.out];rfl),Below.andSame (Below.andSame hA hs) hs1⟩
       have e:j=n0:=by omega
       subst e;rw [List.take_of_length_le (by omega)] at ht;have HS0:=aa ht;have hss:ss.length=j:=hl0;have q1:=(hs.cell _).trans k1;clear ht hj hjn;go_wp2
       clear q1;go_loopw [37] (fun i wr=>∃i2:Nat,i2<=n1/\i=.int .i64 i2/\(cs.take i2).all (wrB j)=true/\Below W.heap.size W wr) (fun i _=>n1-(intOf i).toNat)
       case atStart=>exact ⟨0,Nat.zero_le _,rfl,rfl,hs.below _⟩
       clear hs;obtain ⟨i2,hi2,rfl,ht,hs⟩:=hrel;have hzr:w.heap.size<wr.heap.size:=Nat.lt_of_lt_of_le hz hs.size;have q0:=(hs.cell (p:=⟨w.heap.size,0,none⟩) hz).trans k0;have q1:=(hs.cell (p:=⟨w.heap.size,1,none⟩) hz).trans k1;have q2:=(hs.cell (p:=⟨w.heap.size,2,none⟩) hz).trans k2;have q3:=(hs.cell (p:=⟨w.heap.size,3,none⟩) hz).trans k3;by_cases hin:i2<n1
       . rcases cO rfl g1 with h0'|⟨b,off,rfl,hbl,hcs⟩
         . omega
         have hdj:cs[i2]?=some (cs[i2]'(by omega)):=List.getElem?_eq_getElem (by omega);generalize cs[i2]'(by omega)=x at hdj;have hal:=jm (p:=wrB j) hdj;have hil:=bV hdj;obtain ⟨v0,v1,hv0,hv1,hrv⟩:=hcs i2 x hdj;obtain ⟨rfl,hrv'⟩:=eB hrv;obtain ⟨av,cv,rfl⟩:=aw hrv';have p0:=(hs.cell (p:=⟨b,off+i2*2,none⟩) hbl).trans hv0;have p1:=(hs.cell (p:=⟨b,off+i2*2+1,none⟩) hbl).trans hv1;have r0:=hrv'.below hs;obtain ⟨x0,x1⟩:=x;simp only at p0 p1 r0 hil
         have HT:=aa ht;clear hcs hdj hv0 hv1 hrv hrv' ht;have hB:Below wr.heap.size wr (wr.alloc (.cells #[.int .i64 x0,.slice av x1.length cv] 142)):=(Below.refl _ _).alloc (Nat.le_refl _) _;have s0:(wr.alloc (.cells #[.int .i64 x0,.slice av x1.length cv] 142)).cell? ⟨wr.heap.size,1,none⟩=some (.slice av x1.length cv):=by
          rw [cell_of_row _ wr.heap.size 1 _ _ (0,0) (heap_alloc_new wr _)];rfl
         have zb:wr.heap.size<(wr.alloc (.cells #[.int .i64 x0,.slice av x1.length cv] 142)).heap.size:=by simp
         have HB:=aa hB;have S0:=aa s0;have ZB:=aa zb;clear hB s0 zb;by_cases hI:inB x0 0 ((j:Int)-1)=true
         . by_cases hx:da x1=true
           . have HD:=aa (hal.1 (by unfold wrB;simp only;rw [hI,hx];rfl) HT.out)
             clear hal;go_wp2_with fail
             refine (cH _ _ _ _ _ _ _ _).mono ?_
             rintro e w5 ⟨rfl,hb5⟩;have HB6:=aa (Below.andThen HB.out hb5);have s1:=(hb5.cell (p:=⟨wr.heap.size,1,none⟩) ZB.out).trans S0.out;clear hb5;go_wp2_with fail
             refine (bZ _ _ _ _ x1 rfl (aO (r0.below HB6.out)).1 (by omega)).mono ?_
             rintro e w6 ⟨rfl,hs6⟩;go_wp2
             go_roundw
             case rel=>exact ⟨i2+1,by omega,by go_num,HD.out,(hs.trans (HB6.out.mono hs.size)).trans (hs6.below _)⟩
             case measure=>simp [intOf];omega
           have hx:da x1=false:=by simpa using hx
           have HN:=aa (hal.2 (by unfold wrB;simp only;rw [hI,hx];rfl));clear hal;go_wp2_with fail
           refine (cH _ _ _ _ _ _ _ _).mono ?_
           rintro e w5 ⟨rfl,hb5⟩;have HB6:=aa (Below.andThen HB.out hb5);have s1:=(hb5.cell (p:=⟨wr.heap.size,1,none⟩) ZB.out).trans S0.out;clear hb5;go_wp2_with fail
           refine (bZ _ _ _ _ x1 rfl (aO (r0.below HB6.out)).1 (by omega)).mono ?_
           rintro e w6 ⟨rfl,hs6⟩;go_wp2
           go_ret
           exact ⟨ag (by unfold aW;rw [hss,HN.out,HS0.out];rfl),Below.andSame (Below.andThen hA (hs.trans (HB6.out.mono hs.size))) hs6⟩
         have hI:inB x0 0 ((j:Int)-1)=false:=by simpa using hI
         have HN:=aa (hal.2 (by unfold wrB;simp only;rw [hI];rfl));clear hal;go_wp2_with fail
         refine (cH _ _ _ _ _ _ _ _).mono ?_
         rintro e w5 ⟨rfl,hb5⟩;have HB6:=aa (Below.andThen HB.out hb5);clear hb5;go_wp2
         go_ret
         exact ⟨ag (by unfold aW;rw [hss,HN.out,HS0.out];rfl),Below.andThen hA (hs.trans (HB6.out.mono hs.size))⟩
       have e2:i2=n1:=by omega
       subst e2;rw [List.take_of_length_le (by omega)] at ht;have HS1:=aa ht;clear ht hi2 hin;have g3':=g3.below hs;go_wp2_with fail
       refine (rT _ _ _ _ _ _ _ _ _ bs g3').mono ?_
       rintro e w5 ⟨rfl,hb5⟩;go_wp2
       go_ret
       exact ⟨ag (by unfold aW;rw [HI0.out,HI1.out,hss,HS1.out,HS0.out];simp),Below.andThen (Below.andThen hA hs) hb5⟩
     have hI1:decide (cs.length<=60)=false:=decide_eq_false (by omega);have HI1:=aa hI1;clear hI1;go_enter Tryz.func140,Tryz.ntmps140
     go_wp2
     go_ret
     exact ⟨ag (by unfold aW;rw [HI1.out];simp),hA⟩
   have hI0:inB (ss.length:Int) 1 20=false:=by unfold inB;rw [hl0];simp;omega
   have HI0:=aa hI0;clear hI0;go_enter Tryz.func140,Tryz.ntmps140
   go_wp2
   go_ret
   exact ⟨ag (by unfold aW;rw [HI0.out];simp),hA⟩
 have hI0:inB (ss.length:Int) 1 20=false:=by unfold inB;rw [hl0];simp;omega
 have HI0:=aa hI0;clear hI0;go_enter Tryz.func140,Tryz.ntmps140
 go_wp2
 go_ret
 exact ⟨ag (by unfold aW;rw [HI0.out];simp),hA⟩
def inL (zs:List Int) (n:Int):Bool:=zs.any fun x=>decide (x=n)
theorem sV {zs:List Int} {n x:Int} {j:Nat} (h:j<zs.length) (hx:zs.getD j 0=x):(x=n->inL zs n=true)/\(x≠n->inL (zs.take j) n=false->inL (zs.take (j+1)) n=false):=by
 have e:zs[j]=x:=by rw [←hx];simp [List.getElem?_eq_getElem h]
 refine ⟨fun h1=>?_,fun h1 h2=>?_⟩
 . unfold inL
   rw [List.any_eq_true];exact ⟨x,by rw [←e];exact List.getElem_mem h,by simp [h1]⟩
 unfold inL at *;rw [List.take_succ_eq_append_getElem h,List.any_append,h2,e];simp [h1]
theorem jL (w:World) (a:Option Addr) (len cap:Nat) (zs:List Int) (n:Int) (hz:zs.length=len) (hr:aF .i64 w a zs) (hlen:len<=2097152):
 Calls Tryz.prog 145 #[.slice a len cap,.int .i64 n] w fun e w'=>e=.returned (.bool (inL zs n))/\aH w w':=by
 go_enter Tryz.func145,Tryz.ntmps145
 go_wp2
 go_loop [5] (fun i=>∃j:Nat,j<=len/\i=.int .i64 j/\inL (zs.take j) n=false) (fun i=>len-(intOf i).toNat)
 case atStart=>exact ⟨0,Nat.zero_le _,rfl,rfl⟩
 obtain ⟨j,hj,rfl,ht⟩:=hrel;by_cases hlt:j<len
 . rcases hr.cases with h0|⟨b,off,rfl,hbl,hc⟩
   . omega
   have hc1:=hc j (by omega);have hd:=sV (zs:=zs) (n:=n) (j:=j) (by omega) rfl;generalize zs.getD j 0=x at hc1 hd;have HT:=aa ht;clear hc ht;by_cases hx:x=n
   . have HD:=aa (hd.1 hx)
     clear hd;go_wp2
     go_ret
     exact ⟨ag HD.out.symm,aH.refl _⟩
   have HD:=aa (hd.2 hx HT.out);clear hd;go_wp2
   go_round
   case rel=>exact ⟨j+1,by omega,by go_num,HD.out⟩
   case measure=>simp [intOf];omega
 go_wp2
 go_ret
 have e:j=len:=by omega
 subst e;rw [List.take_of_length_le (by omega)] at ht;exact ⟨ag ht.symm,aH.refl _⟩
def dN (n:Int):List (List Int):=if 1<=n/\n<=20 then List.replicate n.toNat [] else []
theorem fJ (w:World) (n:Int):
 Calls Tryz.prog 150 #[.int .i64 n] w fun e w'=>∃a0 c0,e=.returned (.agg #[.slice a0 (dN n).length c0,.slice none 0 0,.bool false,.slice none 0 0]) /\
  aR.Own w' w.heap.size w'.heap.size [.slice a0 (dN n).length c0] (dN n)/\Below w.heap.size w w':=by
 obtain ⟨i0,hi,hz0,hz1,hz2⟩:=info_parts Tryz.infoIntS;by_cases h1:inB n 1 20=true
 . have hn:1<=n/\n<=20:=by unfold inB at h1;simpa using h1
   obtain ⟨k,rfl⟩:∃k:Nat,n=(k:Int):=⟨n.toNat,by omega⟩;have hk:k<=20:=by omega
   have hN:dN (k:Int)=List.replicate k []:=by unfold dN;rw [if_pos hn,Int.toNat_natCast]
   have HN:=aa hN;clear hN hn;have hA:Below w.heap.size w ((w.alloc (.cells #[.slice none 0 0,.slice none 0 0,.bool false,.slice none 0 0] 78)).alloc (.cells #[.slice none 0 0,.slice none 0 0,.bool false,.slice none 0 0] 78)):=((Below.refl _ _).alloc (Nat.le_refl _) _).alloc (by simp) _;have hB0:Box ((w.alloc (.cells #[.slice none 0 0,.slice none 0 0,.bool false,.slice none 0 0] 78)).alloc (.cells #[.slice none 0 0,.slice none 0 0,.bool false,.slice none 0 0] 78)) w.heap.size 78 #[.slice none 0 0,.slice none 0 0,.bool false,.slice none 0 0]:=(Box.new w _ _).alloc _;have hB1:Box ((w.alloc (.cells #[.slice none 0 0,.slice none 0 0,.bool false,.slice none 0 0] 78)).alloc (.cells #[.slice none 0 0,.slice none 0 0,.bool false,.slice none 0 0] 78)) (w.heap.size+1) 78 #[.slice none 0 0,.slice none 0 0,.bool false,.slice none 0 0]:=by
    have:=Box.new (w.alloc (.cells #[.slice none 0 0,.slice none 0 0,.bool false,.slice none 0 0] 78)) 78 #[.slice none 0 0,.slice none 0 0,.bool false,.slice none 0 0];rw [show (w.alloc (.cells #[.slice none 0 0,.slice none 0 0,.bool false,.slice none 0 0] 78)).heap.size=w.heap.size+1 by simp] at this;exact this
   go_enter Tryz.func150,Tryz.ntmps150
   go_wp2_with fail
   refine (aB _ _ _ _).mono ?_
   rintro e w1 ⟨rfl,hw1⟩;subst w1;go_wp2
   generalize hW:(w.alloc (.cells #[.slice none 0 0,.slice none 0 0,.bool false,.slice none 0 0] 78)).alloc (.cells #[.slice none 0 0,.slice none 0 0,.bool false,.slice none 0 0] 78)=W at hA hB0 hB1 ⊢;clear hW;go_loopw [4] (fun i wr=>∃(j:Nat) (v:Value) (fp:List Nat),j<=k/\i=.int .i64 j/\Box wr w.heap.size 78 #[.slice none 0 0,.slice none 0 0,.bool false,.slice none 0 0]/\Box wr (w.heap.size+1) 78 #[v,.slice none 0 0,.bool false,.slice none 0 0]/\aR.Mine wr [v] (List.replicate j []) fp/\(∀b∈fp,w.heap.size+1<b)/\Below w.heap.size w wr) (fun i _=>k-(intOf i).toNat)
   case atStart=>exact ⟨0,_,[],Nat.zero_le _,rfl,hB0,hB1,cR _,by simp,hA⟩
   clear hA hB0 hB1;obtain ⟨j,v,fp,hj,rfl,x0,x1,ho,hfp,hb⟩:=hrel;obtain ⟨q0,_,_,_⟩:=x1.cells4;by_cases hjn:j<k
   . have hj1:(j:Int)<(k:Int):=by omega
     have M1:=aa (((ho.alloc (.cells #[] 3)).alloc (.cells #[.slice (some ⟨wr.heap.size,0,none⟩) 0 0] 52)));have E1:=aa ((eh (t:=eo) (E:=3) wr).alloc (.cells #[.slice (some ⟨wr.heap.size,0,none⟩) 0 0] 52));have n1:=aZ (wr.alloc (.cells #[] 3)) #[.slice (some ⟨wr.heap.size,0,none⟩) 0 0] 52;rw [show (wr.alloc (.cells #[] 3)).heap.size=wr.heap.size+1 by simp] at n1;have N1:=aa n1;clear n1;have hlt:=ho.lt;have D1:=aa (show ∀b∈fp,b∉[wr.heap.size] from fun b hb hb'=>by have:=hlt b hb;simp at hb';omega);have X0:=aa ((x0.alloc (.cells #[] 3)).alloc (.cells #[.slice (some ⟨wr.heap.size,0,none⟩) 0 0] 52));have X1:=aa ((x1.alloc (.cells #[] 3)).alloc (.cells #[.slice (some ⟨wr.heap.size,0,none⟩) 0 0] 52));have F0:=aa (show w.heap.size∉fp from fun hm=>by have:=hfp _ hm;omega);have F1:=aa (show w.heap.size+1∉fp from fun hm=>by have:=hfp _ hm;omega);have HFP:=aa hfp;have BA:=aa ((hb.alloc hb.size (.cells #[] 3)).alloc (by simp;have:=hb.size;omega) (.cells #[.slice (some ⟨wr.heap.size,0,none⟩) 0 0] 52));have hsz:=x1.lt;have O1:=aa (show ∀u∈[Value.slice (some ⟨wr.heap.size,0,none⟩) 0 0],u.oneCell'=true from fun u hu=>by simp at hu;rw [hu];rfl);have L1:=aa (show (List.replicate j ([]:List Int)).length+1<=maxLen by rw [List.length_replicate];unfold maxLen;omega);have L2:=aa (show ((List.replicate j ([]:List Int)).length+1)*24<=140737488355328 by rw [List.length_replicate];omega);clear ho hlt hfp x0 x1 hb;have HREP:=aa (show List.replicate j ([]:List Int)++[[]]=List.replicate (j+1) [] by rw [List.replicate_succ']);go_wp2_with (at_builtin;refine bO aA rfl (.tmp 16) (.tmp 18) 75 rfl 52 i0 (.slice none 0 0) 24 Tryz.underlying75 hi hz0 hz1 hz2 rfl Nat.zero_lt_one v (List.replicate j []) fp rfl ?_ ⟨wr.heap.size+1,0,none⟩ 1 [.slice (some ⟨wr.heap.size,0,none⟩) 0 0] [] [wr.heap.size] rfl ?_ ?_ ?_ ?_ ?_ ?_ ?_;exact M1.out;exact E1.out;exact D1.out;exact N1.out;exact O1.out;exact L1.out;exact L2.out;intro v2 w2 fp2 m1 m2 m3;rw [HREP.out] at m1;obtain ⟨a2,c2,hv2⟩:=aw m1.rd;rw [List.length_replicate] at hv2;subst hv2;have y1:=X1.out.turned m3 F1.out;obtain ⟨r0,_,_,_⟩:=y1.cells4;have fz:=y1.frozen 0;have Y1:=aa y1;have HM1:=aa m1;have HM2:=aa m2;have HM3:=aa m3;clear m1 m2 m3 y1)
     have hf2:∀b∈fp2,w.heap.size+1<b:=by
      intro b hb;rcases HM2.out b hb with h|h|h
      . exact HFP.out b h
      . simp at h
        omega
      have:=h.1;simp at this
      omega
     have hmine:=HM1.out.setCell (g:=w.heap.size+1) (j:=0) (fun hm=>by have:=hf2 _ hm;omega) (.slice a2 (j+1) c2);have Z0:=aa ((X0.out.turned HM3.out F0.out).other (g:=w.heap.size+1) (by omega) 0 (.slice a2 (j+1) c2));have Z1:=aa (Y1.out.set 0 (.slice a2 (j+1) c2));have ZM:=aa hmine;have ZB:=aa ((BA.out.trans (HM3.out.below (N:=w.heap.size) (by simp;omega) (fun b hb=>by have:=HFP.out b hb;omega))).setCell (p:=⟨w.heap.size+1,0,none⟩) (by simp) (.slice a2 (j+1) c2));clear M1 E1 N1 D1 O1 L1 L2 X0 X1 F0 F1 HFP BA HM1 HM2 HM3 Y1 hmine HREP;go_roundw
     case rel=>exact ⟨j+1,_,fp2,by omega,by go_num,Z0.out,Z1.out,ZM.out,hf2,ZB.out⟩
     case measure=>simp [intOf];omega
   have e:j=k:=by omega
   subst e;obtain ⟨a0,c0,hv⟩:=aw ho.rd;subst hv;rw [List.length_replicate] at q0 x1 ho;obtain ⟨_,q1,q2,q3⟩:=x1.cells4;obtain ⟨p0,p1,p2,p3⟩:=x0.cells4;have fz:=x0.frozen;have hbt:But w.heap.size (w.heap.size+1) wr ((((wr.setCell ⟨w.heap.size,0,none⟩ (.slice a0 j c0)).setCell ⟨w.heap.size,1,none⟩ (.slice none 0 0)).setCell ⟨w.heap.size,2,none⟩ (.bool false)).setCell ⟨w.heap.size,3,none⟩ (.slice none 0 0)):=
    (((But.setCell (by omega) (by omega) _).trans (But.setCell (by omega) (by omega) _)).trans (But.setCell (by omega) (by omega) _)).trans (But.setCell (by omega) (by omega) _)
   have hlt:=ho.lt;have HO:=aa ((ho.own (lo:=w.heap.size+1) (hi:=wr.heap.size) (fun b hb=>by have h1:=hfp b hb;have h2:=hlt b hb;omega)).but hbt (.inr (Nat.le_refl _)));have HB:=aa (Below.andBut hb hbt (Nat.le_refl _));have HS:=aa hbt.size;clear hbt ho hb hfp hlt x0 x1;go_wp2
   refine bodyPost_ret (v:=.agg #[.slice a0 j c0,.slice none 0 0,.bool false,.slice none 0 0]) (by simp [results,Tryz.results150,go_sem,p0,p1,p2,p3]) rfl ?_
   have hl:(dN (j:Int)).length=j:=by rw [HN.out,List.length_replicate]
   rw [hl,HN.out];exact ⟨_,_,rfl,HO.out.widen (by omega) HS.out,HB.out⟩
 have hN:dN n=[]:=by unfold dN;rw [if_neg (by intro h;apply h1;unfold inB;simp;omega)]
 rw [hN];have h1:inB n 1 20=false:=by simpa using h1
 have hA:Below w.heap.size w (w.alloc (.cells #[.slice none 0 0,.slice none 0 0,.bool false,.slice none 0 0] 78)):=(Below.refl _ _).alloc (Nat.le_refl _) _;go_enter Tryz.func150,Tryz.ntmps150
 go_wp2_with fail
 refine (aB _ _ _ _).mono ?_
 rintro e w1 ⟨rfl,hw1⟩;subst w1;go_wp2
 refine bodyPost_ret (v:=.agg #[.slice none 0 0,.slice none 0 0,.bool false,.slice none 0 0]) (by simp [results,Tryz.results150,go_sem]) rfl ⟨none,0,rfl,ge _ _ _,hA⟩
def ofW (zs:List Int):Sup:=⟨zs.getD 1 0,zs.getD 2 0,zs.getD 3 0,zs.getD 4 0,zs.getD 5 0,zs.getD 6 0,IntKind.i64.wrap (zs.getD 7 0-1),zs.getD 8 0⟩
def getB (zs:List Int):Bool:=decide (zs.length=9)&&(decide (zs.getD 0 0=21317)&&er (ofW zs))
def getD (zs:List Int):Sup:=if getB zs=true then ofW zs else supZ
end Go.Proofs.YtejokiafgbjdaaaGreat
