/-
 The walk of the program's copyWords: the same numbers in memory of its own. Condition: at most 2097152.
-/
import Derived.Test.YtfimpohbpccjaaaGreatRowGetBlockSq2
import Derived.Test.YtfimpohbpccjaaaGreatRowGetBlockSq1

set_option maxRecDepth 100000
set_option maxHeartbeats 8000000
set_option linter.unusedSimpArgs false

namespace Go.Proofs.YtfimpohbpccjaaaGreat
open Go.RowKit

def wrB (n:Int) (x:Int×List Int):Bool:=inB x.1 0 (n-1)&&cf x.2
def ct (n:Int) (bs:List Int) (i:Nat):Bool:=inB (bs.getD i 0) 0 (n-1)&&(decide (i=0)||decide (bs.getD (i-1) 0<bs.getD i 0))
def eS (n:Int) (bs:List Int):Bool:=(List.range bs.length).all (ct n bs)
def bT (ss:List (List Int)) (cs:List (Int×List Int)) (bs:List Int):Bool:=
 ss.all cf&&(cs.all (wrB ss.length)&&(eS ss.length bs&&(inB ss.length 1 20&&decide (cs.length<=60))))
theorem dO {α:Type} {p:α->Bool} {l:List α} {j:Nat} {x:α} (h:l[j]?=some x):(p x=true->(l.take j).all p=true->(l.take (j+1)).all p=true)/\(p x=false->l.all p=false):=by
 have hj:j<l.length:=(List.getElem?_eq_some_iff.1 h).1;have e:l[j]=x:=by rw [List.getElem?_eq_getElem hj] at h;simpa using h
 refine ⟨fun h1 h2=>?_,fun h1=>?_⟩
 . rw [List.take_succ_eq_append_getElem hj,List.all_append,h2,e]
   simp [h1]
 rw [List.all_eq_false];exact ⟨x,by rw [←e];exact List.getElem_mem hj,by simp [h1]⟩
theorem aM (w:World) (E:TypeId) (a0 a1 a3:Option Addr) (n0 c0 n1 c1 n3 c3:Nat) (ss:List (List Int)) (cs:List (Int×List Int)) (f:Bool) (bs:List Int) (h0:bj.Rd w [.slice a0 n0 c0] ss) (h1:(aV E).Rd w [.slice a1 n1 c1] cs) (h3:aI.Rd w [.slice a3 n3 c3] bs) (hw:aF (ss,cs,f,bs)<=2097152):
 Calls Tryz.prog 64 #[.agg #[.slice a0 n0 c0,.slice a1 n1 c1,.bool f,.slice a3 n3 c3]] w fun e w'=>e=.returned (.bool (bT ss cs bs))/\Below w.heap.size w w':=by
 obtain ⟨hl0,_,hm0⟩:=ag h0;obtain ⟨hl1,_,hm1⟩:=ag h1;obtain ⟨hl3,_,hm3⟩:=ag h3;have hw0:aB ss<=2097152:=by unfold aF at hw;simp only at hw;omega
 have hw1:aA cs<=2097152:=by unfold aF at hw;simp only at hw;omega
 have hw3:n3<=2097152:=by unfold aF at hw;simp only at hw;omega
 have hn0:n0<=2097152:=by unfold aB at hw0;omega
 have hn1:n1<=2097152:=by unfold aA at hw1;omega
 have hA:Below w.heap.size w (w.alloc (.cells #[.slice a0 n0 c0,.slice a1 n1 c1,.bool f,.slice a3 n3 c3] 66)):=(Below.refl _ _).alloc (Nat.le_refl _) _;have hcell:∀j v,(#[Value.slice a0 n0 c0,.slice a1 n1 c1,.bool f,.slice a3 n3 c3])[j]?=some v->(w.alloc (.cells #[.slice a0 n0 c0,.slice a1 n1 c1,.bool f,.slice a3 n3 c3] 66)).cell? ⟨w.heap.size,j,none⟩=some v:=by
  intro j v hv;rw [cell_of_row _ w.heap.size j _ _ (0,0) (heap_alloc_new w _)];exact hv
 have k0:=hcell 0 _ rfl;have k1:=hcell 1 _ rfl;have k3:=hcell 3 _ rfl;have g0:=h0.below hA;have g1:=h1.below hA;have g3:=h3.below hA;have hz:w.heap.size<(w.alloc (.cells #[.slice a0 n0 c0,.slice a1 n1 c1,.bool f,.slice a3 n3 c3] 66)).heap.size:=by simp
 go_enter Tryz.func64,Tryz.ntmps64
 go_wp2
 generalize hW:w.alloc (.cells #[.slice a0 n0 c0,.slice a1 n1 c1,.bool f,.slice a3 n3 c3] 66)=W at hA k0 k1 k3 g0 g1 g3 hz ⊢;clear hW hcell h0 h1 h3;go_loopw [4] (fun i wr=>∃j:Nat,j<=n0/\i=.int .i64 j/\(ss.take j).all cf=true/\aG W wr) (fun i _=>n0-(intOf i).toNat)
 case atStart=>exact ⟨0,Nat.zero_le _,rfl,rfl,aG.refl _⟩
 obtain ⟨j,hj,rfl,ht,hs⟩:=hrel;have q0:=(hs.cell _).trans k0;by_cases hjn:j<n0
 . rcases cT rfl g0 with h0'|⟨b,off,rfl,hbl,hcs⟩
   . omega
   have hdj:ss[j]?=some (ss[j]'(by omega)):=List.getElem?_eq_getElem (by omega);generalize ss[j]'(by omega)=x at hdj;have hal:=dO (p:=cf) hdj;have hil:=dr hdj;obtain ⟨v,hv,hrv⟩:=hcs j x hdj;obtain ⟨av,cv,rfl⟩:=aq hrv;have q1:=(hs.cell ⟨b,off+j,none⟩).trans hv;obtain ⟨r1,_,_,_⟩:=az (hrv.same hs);have HT:=ab ht;clear hcs hdj hv hrv ht;by_cases hx:cf x=true
   . have HD:=ab (hal.1 hx HT.out)
     clear hal;go_wp2_with fail
     refine (cl _ _ _ _ x rfl r1 (by omega)).mono ?_
     rintro e w1 ⟨rfl,hs1⟩;go_wp2
     go_roundw
     case rel=>exact ⟨j+1,by omega,by go_num,HD.out,hs.trans hs1⟩
     case measure=>simp [intOf];omega
   have hx:cf x=false:=by simpa using hx
   have HN:=ab (hal.2 hx);clear hal;go_wp2_with fail
   refine (cl _ _ _ _ x rfl r1 (by omega)).mono ?_
   rintro e w1 ⟨rfl,hs1⟩;go_wp2
   go_ret
   exact ⟨ac (by unfold bT;rw [HN.out];rfl),Below.andSame (Below.andSame hA hs) hs1⟩
 have e:j=n0:=by omega
 subst e;rw [List.take_of_length_le (by omega)] at ht;have HS0:=ab ht;have hss:ss.length=j:=hl0;clear ht hj hjn q0;go_wp2
 go_loopw [5] (fun i wr=>∃i2:Nat,i2<=n1/\i=.int .i64 i2/\(cs.take i2).all (wrB j)=true/\aG W wr) (fun i _=>n1-(intOf i).toNat)
 case atStart=>exact ⟨0,Nat.zero_le _,rfl,rfl,hs⟩
 clear hs;obtain ⟨i2,hi2,rfl,ht,hs⟩:=hrel;have q1:=(hs.cell _).trans k1;by_cases hin:i2<n1
 . rcases aX rfl g1 with h0'|⟨b,off,rfl,hbl,hcs⟩
   . omega
   have hdj:cs[i2]?=some (cs[i2]'(by omega)):=List.getElem?_eq_getElem (by omega);generalize cs[i2]'(by omega)=x at hdj;have hal:=dO (p:=wrB j) hdj;have hil:=bE hdj;obtain ⟨v0,v1,hv0,hv1,hrv⟩:=hcs i2 x hdj;obtain ⟨rfl,hrv'⟩:=bN hrv;obtain ⟨av,cv,rfl⟩:=aq hrv';have p0:=(hs.cell ⟨b,off+i2*2,none⟩).trans hv0;have p1:=(hs.cell ⟨b,off+i2*2+1,none⟩).trans hv1;obtain ⟨r1,_,_,_⟩:=az (hrv'.same hs);obtain ⟨x0,x1⟩:=x;simp only at p0 p1 r1 hil
   have HT:=ab ht;clear hcs hdj hv0 hv1 hrv hrv' ht;by_cases hI:inB x0 0 ((j:Int)-1)=true
   . by_cases hx:cf x1=true
     . have HD:=ab (hal.1 (by unfold wrB;simp only;rw [hI,hx];rfl) HT.out)
       clear hal;go_wp2_with fail
       refine (al _ _ _ _).mono ?_
       rintro e w1 ⟨rfl,hw1'⟩;subst w1;go_wp2_with fail
       refine (cl _ _ _ _ x1 rfl r1 (by omega)).mono ?_
       rintro e w2 ⟨rfl,hs2⟩;go_wp2
       go_roundw
       case rel=>exact ⟨i2+1,by omega,by go_num,HD.out,hs.trans hs2⟩
       case measure=>simp [intOf];omega
     have hx:cf x1=false:=by simpa using hx
     have HN:=ab (hal.2 (by unfold wrB;simp only;rw [hI,hx];rfl));clear hal;go_wp2_with fail
     refine (al _ _ _ _).mono ?_
     rintro e w1 ⟨rfl,hw1'⟩;subst w1;go_wp2_with fail
     refine (cl _ _ _ _ x1 rfl r1 (by omega)).mono ?_
     rintro e w2 ⟨rfl,hs2⟩;go_wp2
     go_ret
     exact ⟨ac (by unfold bT;rw [hss,HN.out,HS0.out];rfl),Below.andSame (Below.andSame hA hs) hs2⟩
   have hI:inB x0 0 ((j:Int)-1)=false:=by simpa using hI
   have HN:=ab (hal.2 (by unfold wrB;simp only;rw [hI];rfl));clear hal;go_wp2_with fail
   refine (al _ _ _ _).mono ?_
   rintro e w1 ⟨rfl,hw1'⟩;subst w1;go_wp2
   go_ret
   exact ⟨ac (by unfold bT;rw [hss,HN.out,HS0.out];rfl),Below.andSame hA hs⟩
 have e2:i2=n1:=by omega
 subst e2;rw [List.take_of_length_le (by omega)] at ht;have HS1:=ab ht;have hcsl:cs.length=i2:=hl1;clear ht hi2 hin;go_wp2
 go_loopw [6] (fun i wr=>∃i3:Nat,i3<=n3/\i=.int .i64 i3/\(List.range i3).all (ct j bs)=true/\aG W wr) (fun i _=>n3-(intOf i).toNat)
 case atStart=>exact ⟨0,Nat.zero_le _,rfl,rfl,hs⟩
 clear hs;obtain ⟨i3,hi3,rfl,ht,hs⟩:=hrel;have q3:=(hs.cell _).trans k3;by_cases hi3n:i3<n3
 . obtain ⟨R3,_,_,_⟩:=az g3
   rcases R3.cases with h0'|⟨b,off,rfl,hbl,hcs⟩
   . omega
   have p0:=(hs.cell ⟨b,off+i3,none⟩).trans (hcs i3 (by omega));have HT:=ab ht;have hrs:(List.range (i3+1)).all (ct j bs)=((List.range i3).all (ct j bs)&&ct j bs i3):=by rw [List.range_succ,List.all_append];simp
   have hrn:ct j bs i3=false->eS j bs=false:=by
    intro h;unfold eS;rw [List.all_eq_false];exact ⟨i3,by simp;omega,by simp [h]⟩
   have hbd:ct j bs i3=(inB (bs.getD i3 0) 0 ((j:Int)-1)&&(decide (i3=0)||decide (bs.getD (i3-1) 0<bs.getD i3 0))):=rfl;have i1:(0:Int)<=(i3:Int):=by omega
   have i2':(i3:Int)<(n3:Int):=by omega
   have gw:IntKind.i64.wrap ((j:Int)-1)=(j:Int)-1:=IntWalk.i64_in _ (by omega);by_cases hI:inB (bs.getD i3 0) 0 ((j:Int)-1)=true
   . by_cases hz3:i3=0
     . have HD:Hid ((List.range (i3+1)).all (ct j bs)=true):=by unfold Hid;rw [hrs,HT.out,hbd,hI,decide_eq_true hz3];rfl
       generalize bs.getD i3 0=y at p0 hI;have d0:decide ((0:Int)<(i3:Int))=false:=decide_eq_false (by omega);have d0b:decide (0<i3)=false:=decide_eq_false (by omega);have HZ:=ab hz3;clear hcs ht hrs hrn hbd hz3 R3;go_wp2_with fail
       go_quiet ((go_at_call 28;exact Calls.quiet_of_same (al _ _ _ _)))
       go_wp2
       go_roundw
       case rel=>exact ⟨i3+1,by omega,by go_num,HD.out,hs.drewN _⟩
       case measure=>simp [intOf];omega
     have p1:=(hs.cell ⟨b,off+(i3-1),none⟩).trans (hcs (i3-1) (by omega));have d0:decide ((0:Int)<(i3:Int))=true:=decide_eq_true (by omega);have d0b:decide (0<i3)=true:=decide_eq_true (by omega);have gv:IntKind.i64.wrap ((i3:Int)-1)=(i3:Int)-1:=IntWalk.i64_in _ (by omega);have gt:((i3:Int)-1).toNat=i3-1:=by omega
     have i3a:(0:Int)<=(i3:Int)-1:=by omega
     have i3b:(i3:Int)-1<(n3:Int):=by omega
     by_cases hlt:bs.getD (i3-1) 0<bs.getD i3 0
     . have HD:Hid ((List.range (i3+1)).all (ct j bs)=true):=by unfold Hid;rw [hrs,HT.out,hbd,hI,decide_eq_true hlt];simp
       generalize bs.getD i3 0=y at p0 hI hlt;generalize bs.getD (i3-1) 0=z at p1 hlt;have d1:¬y<=z:=by omega
       clear hcs ht hrs hrn hbd hz3 R3;go_wp2_with fail
       go_quiet ((go_at_call 28;exact Calls.quiet_of_same (al _ _ _ _)))
       go_wp2
       go_roundw
       case rel=>exact ⟨i3+1,by omega,by go_num,HD.out,hs.drewN _⟩
       case measure=>simp [intOf];omega
     have HN:=ab (hrn (by rw [hbd,hI,decide_eq_false hz3,decide_eq_false hlt];rfl));generalize bs.getD i3 0=y at p0 hI hlt;generalize bs.getD (i3-1) 0=z at p1 hlt;have d1:y<=z:=by omega
     clear hcs ht hrs hrn hbd hz3 R3;go_wp2_with fail
     go_quiet ((go_at_call 28;exact Calls.quiet_of_same (al _ _ _ _)))
     go_wp2
     go_ret
     exact ⟨ac (by unfold bT;rw [hss,HN.out,HS1.out,HS0.out];rfl),Below.andSame hA (hs.drewN _)⟩
   have hI:inB (bs.getD i3 0) 0 ((j:Int)-1)=false:=by simpa using hI
   have HN:=ab (hrn (by rw [hbd,hI];rfl));generalize bs.getD i3 0=y at p0 hI;clear hcs ht hrs hrn hbd R3;go_wp2_with fail
   go_quiet ((go_at_call 28;exact Calls.quiet_of_same (al _ _ _ _)))
   go_wp2
   go_ret
   exact ⟨ac (by unfold bT;rw [hss,HN.out,HS1.out,HS0.out];rfl),Below.andSame hA (hs.drewN _)⟩
 have e3:i3=n3:=by omega
 have HB:Hid (eS j bs=true):=by unfold Hid eS;rw [hl3,←e3];exact ht
 clear ht hi3;have q1:=(hs.cell _).trans k1;by_cases hI:inB (j:Int) 1 20=true
 . by_cases h60:(i2:Int)<=60
   . have h60':i2<=60:=by omega
     have H60:=ab (decide_eq_true h60');clear h60';go_wp2_with fail
     refine (al _ _ _ _).mono ?_
     rintro e w1 ⟨rfl,hw1'⟩;subst w1;go_wp2
     go_ret
     exact ⟨ac (by unfold bT;rw [hss,hcsl,HB.out,HS1.out,HS0.out,hI,H60.out];rfl),Below.andSame hA hs⟩
   have h60':¬i2<=60:=by omega
   have H60:=ab (decide_eq_false h60');clear h60';go_wp2_with fail
   refine (al _ _ _ _).mono ?_
   rintro e w1 ⟨rfl,hw1'⟩;subst w1;go_wp2
   go_ret
   exact ⟨ac (by unfold bT;rw [hss,hcsl,HB.out,HS1.out,HS0.out,hI,H60.out,decide_eq_false (by omega)];rfl),Below.andSame hA hs⟩
 have hI:inB (j:Int) 1 20=false:=by simpa using hI
 go_wp2_with fail
 refine (al _ _ _ _).mono ?_
 rintro e w1 ⟨rfl,hw1'⟩;subst w1;go_wp2
 go_ret
 exact ⟨ac (by unfold bT;rw [hss,HB.out,HS1.out,HS0.out,hI];rfl),Below.andSame hA hs⟩
theorem br (w:World) (a0:Option Addr) (n0 c0:Nat) (v1 v2 v3:Value) (x:Int):
 Calls Tryz.prog 97 #[.agg #[.slice a0 n0 c0,v1,v2,v3],.int .i64 x] w fun e w'=>e=.returned (.bool (inB x 0 ((n0:Int)-1)))/\Below w.heap.size w w':=by
 have hA:Below w.heap.size w (w.alloc (.cells #[.slice a0 n0 c0,v1,v2,v3] 66)):=(Below.refl _ _).alloc (Nat.le_refl _) _;have hcell:(w.alloc (.cells #[.slice a0 n0 c0,v1,v2,v3] 66)).cell? ⟨w.heap.size,0,none⟩=some (.slice a0 n0 c0):=by
  rw [cell_of_row _ w.heap.size 0 _ _ (0,0) (heap_alloc_new w _)];rfl
 by_cases h0:0<=x
 . by_cases h1:x<(n0:Int)
   . go_enter Tryz.func97,Tryz.ntmps97
     go_wp2
     go_ret
     exact ⟨ac (by symm;unfold inB;simp;omega),hA⟩
   go_enter Tryz.func97,Tryz.ntmps97
   go_wp2
   go_ret
   exact ⟨ac (by symm;unfold inB;simp;omega),hA⟩
 go_enter Tryz.func97,Tryz.ntmps97
 go_wp2
 go_ret
 exact ⟨ac (by symm;unfold inB;simp;omega),hA⟩
theorem ig (w:World) (a0:Option Addr) (n0 c0:Nat) (v1 v2:Value) (a3:Option Addr) (n3 c3:Nat) (bs:List Int) (h3:aI.Rd w [.slice a3 n3 c3] bs):
 Calls Tryz.prog 98 #[.agg #[.slice a0 n0 c0,v1,v2,.slice a3 n3 c3]] w fun e w'=>e=.returned (.bool (eS n0 bs))/\Below w.heap.size w w':=by
 obtain ⟨hl3,_,hm3⟩:=ag h3;have hA:Below w.heap.size w (w.alloc (.cells #[.slice a0 n0 c0,v1,v2,.slice a3 n3 c3] 66)):=(Below.refl _ _).alloc (Nat.le_refl _) _;have hcell:∀j v,(#[Value.slice a0 n0 c0,v1,v2,.slice a3 n3 c3])[j]?=some v->(w.alloc (.cells #[.slice a0 n0 c0,v1,v2,.slice a3 n3 c3] 66)).cell? ⟨w.heap.size,j,none⟩=some v:=by
  intro j v hv;rw [cell_of_row _ w.heap.size j _ _ (0,0) (heap_alloc_new w _)];exact hv
 have k0:=hcell 0 _ rfl;have k1:=hcell 1 _ rfl;have k2:=hcell 2 _ rfl;have k3:=hcell 3 _ rfl;have g3:=h3.below hA;have hz:w.heap.size<(w.alloc (.cells #[.slice a0 n0 c0,v1,v2,.slice a3 n3 c3] 66)).heap.size:=by simp
 go_enter Tryz.func98,Tryz.ntmps98
 go_wp2
 generalize hW:w.alloc (.cells #[.slice a0 n0 c0,v1,v2,.slice a3 n3 c3] 66)=W at hA k0 k1 k2 k3 g3 hz ⊢;clear hW hcell h3;go_loopw [8] (fun i wr=>∃i3:Nat,i3<=n3/\i=.int .i64 i3/\(List.range i3).all (ct n0 bs)=true/\Below W.heap.size W wr) (fun i _=>n3-(intOf i).toNat)
 case atStart=>exact ⟨0,Nat.zero_le _,rfl,rfl,Below.refl _ _⟩
 obtain ⟨i3,hi3,rfl,ht,hs⟩:=hrel;have q0:=(hs.cell (p:=⟨w.heap.size,0,none⟩) hz).trans k0;have q1:=(hs.cell (p:=⟨w.heap.size,1,none⟩) hz).trans k1;have q2:=(hs.cell (p:=⟨w.heap.size,2,none⟩) hz).trans k2;have q3:=(hs.cell (p:=⟨w.heap.size,3,none⟩) hz).trans k3;have hzr:w.heap.size<wr.heap.size:=Nat.lt_of_lt_of_le hz hs.size;by_cases hi3n:i3<n3
 . obtain ⟨R3,_,_,_⟩:=az g3
   rcases R3.cases with h0'|⟨b,off,rfl,hbl,hcs⟩
   . omega
   have hbr:b<wr.heap.size:=Nat.lt_of_lt_of_le hbl hs.size;have p0:=(hs.cell (p:=⟨b,off+i3,none⟩) hbl).trans (hcs i3 (by omega));have HT:=ab ht;have hrs:(List.range (i3+1)).all (ct n0 bs)=((List.range i3).all (ct n0 bs)&&ct n0 bs i3):=by rw [List.range_succ,List.all_append];simp
   have hrn:ct n0 bs i3=false->eS n0 bs=false:=by
    intro h;unfold eS;rw [List.all_eq_false];exact ⟨i3,by simp;omega,by simp [h]⟩
   have hbd:ct n0 bs i3=(inB (bs.getD i3 0) 0 ((n0:Int)-1)&&(decide (i3=0)||decide (bs.getD (i3-1) 0<bs.getD i3 0))):=rfl;have i1:(0:Int)<=(i3:Int):=by omega
   have i2':(i3:Int)<(n3:Int):=by omega
   by_cases hI:inB (bs.getD i3 0) 0 ((n0:Int)-1)=true
   . by_cases hz3:i3=0
     . have HD:Hid ((List.range (i3+1)).all (ct n0 bs)=true):=by unfold Hid;rw [hrs,HT.out,hbd,hI,decide_eq_true hz3];rfl
       generalize bs.getD i3 0=y at p0 hI;have d0:decide ((0:Int)<(i3:Int))=false:=decide_eq_false (by omega);have d0b:decide (0<i3)=false:=decide_eq_false (by omega);have HZ:=ab hz3;clear hcs ht hrs hrn hbd hz3 R3;go_wp2_with fail
       refine (br _ _ _ _ _ _ _ _).mono ?_
       rintro e w5 ⟨rfl,hb5'⟩;have r0:=(hb5'.cell (p:=⟨w.heap.size,0,none⟩) hzr).trans q0;have r1:=(hb5'.cell (p:=⟨w.heap.size,1,none⟩) hzr).trans q1;have r2:=(hb5'.cell (p:=⟨w.heap.size,2,none⟩) hzr).trans q2;have r3:=(hb5'.cell (p:=⟨w.heap.size,3,none⟩) hzr).trans q3;have hs5:=hs.trans (hb5'.mono hs.size);clear q0 q1 q2 q3 hb5';go_wp2
       go_roundw
       case rel=>exact ⟨i3+1,by omega,by go_num,HD.out,hs5⟩
       case measure=>simp [intOf];omega
     have p1:=(hs.cell (p:=⟨b,off+(i3-1),none⟩) hbl).trans (hcs (i3-1) (by omega));have d0:decide ((0:Int)<(i3:Int))=true:=decide_eq_true (by omega);have d0b:decide (0<i3)=true:=decide_eq_true (by omega);have gv:IntKind.i64.wrap ((i3:Int)-1)=(i3:Int)-1:=IntWalk.i64_in _ (by omega);have gt:((i3:Int)-1).toNat=i3-1:=by omega
     have i3a:(0:Int)<=(i3:Int)-1:=by omega
     have i3b:(i3:Int)-1<(n3:Int):=by omega
     by_cases hlt:bs.getD (i3-1) 0<bs.getD i3 0
     . have HD:Hid ((List.range (i3+1)).all (ct n0 bs)=true):=by unfold Hid;rw [hrs,HT.out,hbd,hI,decide_eq_true hlt];simp
       generalize bs.getD i3 0=y at p0 hI hlt;generalize bs.getD (i3-1) 0=z at p1 hlt;have d1:¬y<=z:=by omega
       clear hcs ht hrs hrn hbd hz3 R3;go_wp2_with fail
       refine (br _ _ _ _ _ _ _ _).mono ?_
       rintro e w5 ⟨rfl,hb5'⟩;have r0:=(hb5'.cell (p:=⟨w.heap.size,0,none⟩) hzr).trans q0;have r1:=(hb5'.cell (p:=⟨w.heap.size,1,none⟩) hzr).trans q1;have r2:=(hb5'.cell (p:=⟨w.heap.size,2,none⟩) hzr).trans q2;have r3:=(hb5'.cell (p:=⟨w.heap.size,3,none⟩) hzr).trans q3;have p2:=(hb5'.cell (p:=⟨b,off+(i3-1),none⟩) hbr).trans p1;have hs5:=hs.trans (hb5'.mono hs.size);clear q0 q1 q2 q3 hb5';go_wp2
       go_roundw
       case rel=>exact ⟨i3+1,by omega,by go_num,HD.out,hs5⟩
       case measure=>simp [intOf];omega
     have HN:=ab (hrn (by rw [hbd,hI,decide_eq_false hz3,decide_eq_false hlt];rfl));generalize bs.getD i3 0=y at p0 hI hlt;generalize bs.getD (i3-1) 0=z at p1 hlt;have d1:y<=z:=by omega
     clear hcs ht hrs hrn hbd hz3 R3;go_wp2_with fail
     refine (br _ _ _ _ _ _ _ _).mono ?_
     rintro e w5 ⟨rfl,hb5'⟩;have r0:=(hb5'.cell (p:=⟨w.heap.size,0,none⟩) hzr).trans q0;have r1:=(hb5'.cell (p:=⟨w.heap.size,1,none⟩) hzr).trans q1;have r2:=(hb5'.cell (p:=⟨w.heap.size,2,none⟩) hzr).trans q2;have r3:=(hb5'.cell (p:=⟨w.heap.size,3,none⟩) hzr).trans q3;have p2:=(hb5'.cell (p:=⟨b,off+(i3-1),none⟩) hbr).trans p1;have hs5:=hs.trans (hb5'.mono hs.size);clear q0 q1 q2 q3 hb5';go_wp2
     go_ret
     exact ⟨ac HN.out.symm,Below.andThen hA hs5⟩
   have hI:inB (bs.getD i3 0) 0 ((n0:Int)-1)=false:=by simpa using hI
   have HN:=ab (hrn (by rw [hbd,hI];rfl));generalize bs.getD i3 0=y at p0 hI;clear hcs ht hrs hrn hbd R3;go_wp2_with fail
   refine (br _ _ _ _ _ _ _ _).mono ?_
   rintro e w5 ⟨rfl,hb5'⟩;have r0:=(hb5'.cell (p:=⟨w.heap.size,0,none⟩) hzr).trans q0;have r1:=(hb5'.cell (p:=⟨w.heap.size,1,none⟩) hzr).trans q1;have r2:=(hb5'.cell (p:=⟨w.heap.size,2,none⟩) hzr).trans q2;have r3:=(hb5'.cell (p:=⟨w.heap.size,3,none⟩) hzr).trans q3;have hs5:=hs.trans (hb5'.mono hs.size);clear q0 q1 q2 q3 hb5';go_wp2
   go_ret
   exact ⟨ac HN.out.symm,Below.andThen hA hs5⟩
 have e3:i3=n3:=by omega
 have HB:Hid (eS n0 bs=true):=by unfold Hid eS;rw [hl3,←e3];exact ht
 clear ht hi3;go_wp2
 go_ret
 exact ⟨ac HB.out.symm,Below.andThen hA hs⟩
theorem aO (w:World) (E:TypeId) (a0 a1 a3:Option Addr) (n0 c0 n1 c1 n3 c3:Nat) (ss:List (List Int)) (cs:List (Int×List Int)) (f:Bool) (bs:List Int) (h0:bj.Rd w [.slice a0 n0 c0] ss) (h1:(aV E).Rd w [.slice a1 n1 c1] cs) (h3:aI.Rd w [.slice a3 n3 c3] bs) (hw:aF (ss,cs,f,bs)<=2097152):
 Calls Tryz.prog 90 #[.agg #[.slice a0 n0 c0,.slice a1 n1 c1,.bool f,.slice a3 n3 c3]] w fun e w'=>e=.returned (.bool (bT ss cs bs))/\Below w.heap.size w w':=by
 obtain ⟨hl0,_,hm0⟩:=ag h0;obtain ⟨hl1,_,hm1⟩:=ag h1;obtain ⟨hl3,_,hm3⟩:=ag h3;have hw0:aB ss<=2097152:=by unfold aF at hw;simp only at hw;omega
 have hw1:aA cs<=2097152:=by unfold aF at hw;simp only at hw;omega
 have hA:Below w.heap.size w (w.alloc (.cells #[.slice a0 n0 c0,.slice a1 n1 c1,.bool f,.slice a3 n3 c3] 66)):=(Below.refl _ _).alloc (Nat.le_refl _) _;have hcell:∀j v,(#[Value.slice a0 n0 c0,.slice a1 n1 c1,.bool f,.slice a3 n3 c3])[j]?=some v->(w.alloc (.cells #[.slice a0 n0 c0,.slice a1 n1 c1,.bool f,.slice a3 n3 c3] 66)).cell? ⟨w.heap.size,j,none⟩=some v:=by
  intro j v hv;rw [cell_of_row _ w.heap.size j _ _ (0,0) (heap_alloc_new w _)];exact hv
 have k0:=hcell 0 _ rfl;have k1:=hcell 1 _ rfl;have k2:=hcell 2 _ rfl;have k3:=hcell 3 _ rfl;have g0:=h0.below hA;have g1:=h1.below hA;have g3:=h3.below hA;have hz:w.heap.size<(w.alloc (.cells #[.slice a0 n0 c0,.slice a1 n1 c1,.bool f,.slice a3 n3 c3] 66)).heap.size:=by simp
 by_cases c1':(1:Int)<=(n0:Int)
 . by_cases c2':(n0:Int)<=20
   . by_cases c3':(n1:Int)<=60
     . have hI0:inB (ss.length:Int) 1 20=true:=by unfold inB;rw [hl0];simp;omega
       have hI1:decide (cs.length<=60)=true:=decide_eq_true (by omega);have HI0:=ab hI0;have HI1:=ab hI1;clear hI0 hI1;go_enter Tryz.func90,Tryz.ntmps90
       go_wp2
       generalize hW:w.alloc (.cells #[.slice a0 n0 c0,.slice a1 n1 c1,.bool f,.slice a3 n3 c3] 66)=W at hA k0 k1 k2 k3 g0 g1 g3 hz ⊢;clear hW hcell h0 h1 h3;go_loopw [26] (fun i wr=>∃j:Nat,j<=n0/\i=.int .i64 j/\(ss.take j).all cf=true/\aG W wr) (fun i _=>n0-(intOf i).toNat)
       case atStart=>exact ⟨0,Nat.zero_le _,rfl,rfl,aG.refl _⟩
       obtain ⟨j,hj,rfl,ht,hs⟩:=hrel;by_cases hjn:j<n0
       . rcases cT rfl g0 with h0'|⟨b,off,rfl,hbl,hcs⟩
         . omega
         have hdj:ss[j]?=some (ss[j]'(by omega)):=List.getElem?_eq_getElem (by omega);generalize ss[j]'(by omega)=x at hdj;have hal:=dO (p:=cf) hdj;have hil:=dr hdj;obtain ⟨v,hv,hrv⟩:=hcs j x hdj;obtain ⟨av,cv,rfl⟩:=aq hrv;have q1:=(hs.cell ⟨b,off+j,none⟩).trans hv;obtain ⟨r1,_,_,_⟩:=az (hrv.same hs);have HT:=ab ht;clear hcs hdj hv hrv ht;by_cases hx:cf x=true
         . have HD:=ab (hal.1 hx HT.out)
           clear hal;go_wp2_with fail
           refine (bk _ _ _ _ x rfl r1 (by omega)).mono ?_
           rintro e w1 ⟨rfl,hs1⟩;go_wp2
           go_roundw
           case rel=>exact ⟨j+1,by omega,by go_num,HD.out,hs.trans hs1⟩
           case measure=>simp [intOf];omega
         have hx:cf x=false:=by simpa using hx
         have HN:=ab (hal.2 hx);clear hal;go_wp2_with fail
         refine (bk _ _ _ _ x rfl r1 (by omega)).mono ?_
         rintro e w1 ⟨rfl,hs1⟩;go_wp2
         go_ret
         exact ⟨ac (by unfold bT;rw [HN.out];rfl),Below.andSame (Below.andSame hA hs) hs1⟩
       have e:j=n0:=by omega
       subst e;rw [List.take_of_length_le (by omega)] at ht;have HS0:=ab ht;have hss:ss.length=j:=hl0;have q1:=(hs.cell _).trans k1;clear ht hj hjn;go_wp2
       clear q1;go_loopw [37] (fun i wr=>∃i2:Nat,i2<=n1/\i=.int .i64 i2/\(cs.take i2).all (wrB j)=true/\Below W.heap.size W wr) (fun i _=>n1-(intOf i).toNat)
       case atStart=>exact ⟨0,Nat.zero_le _,rfl,rfl,hs.below _⟩
       clear hs;obtain ⟨i2,hi2,rfl,ht,hs⟩:=hrel;have hzr:w.heap.size<wr.heap.size:=Nat.lt_of_lt_of_le hz hs.size;have q0:=(hs.cell (p:=⟨w.heap.size,0,none⟩) hz).trans k0;have q1:=(hs.cell (p:=⟨w.heap.size,1,none⟩) hz).trans k1;have q2:=(hs.cell (p:=⟨w.heap.size,2,none⟩) hz).trans k2;have q3:=(hs.cell (p:=⟨w.heap.size,3,none⟩) hz).trans k3;by_cases hin:i2<n1
       . rcases aX rfl g1 with h0'|⟨b,off,rfl,hbl,hcs⟩
         . omega
         have hdj:cs[i2]?=some (cs[i2]'(by omega)):=List.getElem?_eq_getElem (by omega);generalize cs[i2]'(by omega)=x at hdj;have hal:=dO (p:=wrB j) hdj;have hil:=bE hdj;obtain ⟨v0,v1,hv0,hv1,hrv⟩:=hcs i2 x hdj;obtain ⟨rfl,hrv'⟩:=bN hrv;obtain ⟨av,cv,rfl⟩:=aq hrv';have p0:=(hs.cell (p:=⟨b,off+i2*2,none⟩) hbl).trans hv0;have p1:=(hs.cell (p:=⟨b,off+i2*2+1,none⟩) hbl).trans hv1;have r0:=hrv'.below hs;obtain ⟨x0,x1⟩:=x;simp only at p0 p1 r0 hil
         have HT:=ab ht;clear hcs hdj hv0 hv1 hrv hrv' ht;have hB:Below wr.heap.size wr (wr.alloc (.cells #[.int .i64 x0,.slice av x1.length cv] 98)):=(Below.refl _ _).alloc (Nat.le_refl _) _;have s0:(wr.alloc (.cells #[.int .i64 x0,.slice av x1.length cv] 98)).cell? ⟨wr.heap.size,1,none⟩=some (.slice av x1.length cv):=by
          rw [cell_of_row _ wr.heap.size 1 _ _ (0,0) (heap_alloc_new wr _)];rfl
         have zb:wr.heap.size<(wr.alloc (.cells #[.int .i64 x0,.slice av x1.length cv] 98)).heap.size:=by simp
         have HB:=ab hB;have S0:=ab s0;have ZB:=ab zb;clear hB s0 zb;by_cases hI:inB x0 0 ((j:Int)-1)=true
         . by_cases hx:cf x1=true
           . have HD:=ab (hal.1 (by unfold wrB;simp only;rw [hI,hx];rfl) HT.out)
             clear hal;go_wp2_with fail
             refine (br _ _ _ _ _ _ _ _).mono ?_
             rintro e w5 ⟨rfl,hb5⟩;have HB6:=ab (Below.andThen HB.out hb5);have s1:=(hb5.cell (p:=⟨wr.heap.size,1,none⟩) ZB.out).trans S0.out;clear hb5;go_wp2_with fail
             refine (bk _ _ _ _ x1 rfl (az (r0.below HB6.out)).1 (by omega)).mono ?_
             rintro e w6 ⟨rfl,hs6⟩;go_wp2
             go_roundw
             case rel=>exact ⟨i2+1,by omega,by go_num,HD.out,(hs.trans (HB6.out.mono hs.size)).trans (hs6.below _)⟩
             case measure=>simp [intOf];omega
           have hx:cf x1=false:=by simpa using hx
           have HN:=ab (hal.2 (by unfold wrB;simp only;rw [hI,hx];rfl));clear hal;go_wp2_with fail
           refine (br _ _ _ _ _ _ _ _).mono ?_
           rintro e w5 ⟨rfl,hb5⟩;have HB6:=ab (Below.andThen HB.out hb5);have s1:=(hb5.cell (p:=⟨wr.heap.size,1,none⟩) ZB.out).trans S0.out;clear hb5;go_wp2_with fail
           refine (bk _ _ _ _ x1 rfl (az (r0.below HB6.out)).1 (by omega)).mono ?_
           rintro e w6 ⟨rfl,hs6⟩;go_wp2
           go_ret
           exact ⟨ac (by unfold bT;rw [hss,HN.out,HS0.out];rfl),Below.andSame (Below.andThen hA (hs.trans (HB6.out.mono hs.size))) hs6⟩
         have hI:inB x0 0 ((j:Int)-1)=false:=by simpa using hI
         have HN:=ab (hal.2 (by unfold wrB;simp only;rw [hI];rfl));clear hal;go_wp2_with fail
         refine (br _ _ _ _ _ _ _ _).mono ?_
         rintro e w5 ⟨rfl,hb5⟩;have HB6:=ab (Below.andThen HB.out hb5);clear hb5;go_wp2
         go_ret
         exact ⟨ac (by unfold bT;rw [hss,HN.out,HS0.out];rfl),Below.andThen hA (hs.trans (HB6.out.mono hs.size))⟩
       have e2:i2=n1:=by omega
       subst e2;rw [List.take_of_length_le (by omega)] at ht;have HS1:=ab ht;clear ht hi2 hin;have g3':=g3.below hs;go_wp2_with fail
       refine (ig _ _ _ _ _ _ _ _ _ bs g3').mono ?_
       rintro e w5 ⟨rfl,hb5⟩;go_wp2
       go_ret
       exact ⟨ac (by unfold bT;rw [HI0.out,HI1.out,hss,HS1.out,HS0.out];simp),Below.andThen (Below.andThen hA hs) hb5⟩
     have hI1:decide (cs.length<=60)=false:=decide_eq_false (by omega);have HI1:=ab hI1;clear hI1;go_enter Tryz.func90,Tryz.ntmps90
     go_wp2
     go_ret
     exact ⟨ac (by unfold bT;rw [HI1.out];simp),hA⟩
   have hI0:inB (ss.length:Int) 1 20=false:=by unfold inB;rw [hl0];simp;omega
   have HI0:=ab hI0;clear hI0;go_enter Tryz.func90,Tryz.ntmps90
   go_wp2
   go_ret
   exact ⟨ac (by unfold bT;rw [HI0.out];simp),hA⟩
 have hI0:inB (ss.length:Int) 1 20=false:=by unfold inB;rw [hl0];simp;omega
 have HI0:=ab hI0;clear hI0;go_enter Tryz.func90,Tryz.ntmps90
 go_wp2
 go_ret
 exact ⟨ac (by unfold bT;rw [HI0.out];simp),hA⟩
theorem db (w:World) (a:Option Addr) (n cap:Nat) (zs:List Int) (h:aI.Rd w [.slice a n cap] zs) (hn:n<=2097152):
 Calls Tryz.prog 38 #[.slice a n cap] w fun e w'=>∃a' c',e=.returned (.slice a' n c')/\aI.Own w' w.heap.size w'.heap.size [.slice a' n c'] zs/\Below w.heap.size w w':=by
 obtain ⟨i0,hi,hz0,hz1,hz2⟩:=info_parts Tryz.info3;obtain ⟨hr,hl,_,_⟩:=az h;have hA:Below w.heap.size w (w.alloc (.cells #[] 3)):=(Below.refl _ _).alloc (Nat.le_refl _) _;have hO:aT .i64 3 (w.alloc (.cells #[] 3)) w.heap.size (.slice (some ⟨w.heap.size,0,none⟩) 0 0) []:=aT.lit .i64 3 w [] 0 #[] rfl rfl (by unfold maxLen;omega);match a,h,hr with
 | none,h,_=>
  obtain ⟨rfl,rfl,rfl⟩:=fs h;go_enter Tryz.func38,Tryz.ntmps38
  go_wp2_with (at_builtin;refine wpList_append_own_none rfl _ _ 42 rfl w.heap.size 3 i0 1 Tryz.underlying42 hi _ 0 [] rfl hO rfl ?_)
  go_ret
  exact ⟨_,_,rfl,aC hO,hA⟩
 | some ad,_,hr=>
  have hr1:=hr.below hA;go_enter Tryz.func38,Tryz.ntmps38
  go_wp2_with (at_builtin;refine cc .i64 rfl _ _ 42 rfl w.heap.size 3 i0 (.int .i64 0) 8 Tryz.underlying42 hi hz0 hz1 hz2 rfl _ [] rfl hO ad n cap zs rfl hl hr1 (by unfold maxLen;simp;omega) (by simp;omega) (by simp) ?_;intro v' w1 ho1 hb1;obtain ⟨a1,c1,hv1,_⟩:=ho1.shape;rw [List.nil_append,hl] at hv1;rw [List.nil_append] at ho1;subst hv1)
  go_ret
  exact ⟨_,_,rfl,aC ho1,hA.trans hb1⟩
end Go.Proofs.YtfimpohbpccjaaaGreat
