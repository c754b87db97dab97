/-
 The walks of both XorOf (the program's and the specification's): each answers all numbers together, by xor. Condition: at most 2097152 elements.
-/
import Derived.Test.YtgjomldcnjjpaaaGreatRowArrsSq2
import Derived.Test.YtgjomldcnjjpaaaGreatRowArrsSq3
import Derived.Test.YtgjomldcnjjpaaaGreatRows

set_option maxRecDepth 100000
set_option maxHeartbeats 8000000
set_option linter.unusedSimpArgs false

namespace Go.Proofs.YtgjomldcnjjpaaaGreat
open Go.RowKit

def wrB (n:Int) (x:Int×List Int):Bool:=inB x.1 0 (n-1)&&cR x.2
def dV (n:Int) (bs:List Int) (i:Nat):Bool:=inB (bs.getD i 0) 0 (n-1)&&(decide (i=0)||decide (bs.getD (i-1) 0<bs.getD i 0))
def iJ (n:Int) (bs:List Int):Bool:=(List.range bs.length).all (dV n bs)
def bF (ss:List (List Int)) (cs:List (Int×List Int)) (bs:List Int):Bool:=
 ss.all cR&&(cs.all (wrB ss.length)&&(iJ ss.length bs&&(inB ss.length 1 20&&decide (cs.length<=60))))
theorem jZ {α:Type} {p:α->Bool} {l:List α} {j:Nat} {x:α} (h:l[j]?=some x):(p x=true->(l.take j).all p=true->(l.take (j+1)).all p=true)/\(p x=false->l.all p=false):=by
 have hj:j<l.length:=(List.getElem?_eq_some_iff.1 h).1;have e:l[j]=x:=by rw [List.getElem?_eq_getElem hj] at h;simpa using h
 refine ⟨fun h1 h2=>?_,fun h1=>?_⟩
 . rw [List.take_succ_eq_append_getElem hj,List.all_append,h2,e]
   simp [h1]
 rw [List.all_eq_false];exact ⟨x,by rw [←e];exact List.getElem_mem hj,by simp [h1]⟩
theorem bw (w:World) (E:TypeId) (a0 a1 a3:Option Addr) (n0 c0 n1 c1 n3 c3:Nat) (ss:List (List Int)) (cs:List (Int×List Int)) (f:Bool) (bs:List Int) (h0:aU.Rd w [.slice a0 n0 c0] ss) (h1:(aW E).Rd w [.slice a1 n1 c1] cs) (h3:aD.Rd w [.slice a3 n3 c3] bs) (hw:aM (ss,cs,f,bs)<=2097152):
 Calls Tryz.prog 70 #[.agg #[.slice a0 n0 c0,.slice a1 n1 c1,.bool f,.slice a3 n3 c3]] w fun e w'=>e=.returned (.bool (bF ss cs bs))/\Below w.heap.size w w':=by
 obtain ⟨hl0,_,hm0⟩:=ag h0;obtain ⟨hl1,_,hm1⟩:=ag h1;obtain ⟨hl3,_,hm3⟩:=ag h3;have hw0:cA ss<=2097152:=by unfold aM at hw;simp only at hw;omega
 have hw1:aX cs<=2097152:=by unfold aM at hw;simp only at hw;omega
 have hw3:n3<=2097152:=by unfold aM at hw;simp only at hw;omega
 have hn0:n0<=2097152:=by unfold cA at hw0;omega
 have hn1:n1<=2097152:=by unfold aX at hw1;omega
 have hA:Below w.heap.size w (w.alloc (.cells #[.slice a0 n0 c0,.slice a1 n1 c1,.bool f,.slice a3 n3 c3] 55)):=(Below.refl _ _).alloc (Nat.le_refl _) _;have hcell:∀j v,(#[Value.slice a0 n0 c0,.slice a1 n1 c1,.bool f,.slice a3 n3 c3])[j]?=some v->(w.alloc (.cells #[.slice a0 n0 c0,.slice a1 n1 c1,.bool f,.slice a3 n3 c3] 55)).cell? ⟨w.heap.size,j,none⟩=some v:=by
  intro j v hv;rw [cell_of_row _ w.heap.size j _ _ (0,0) (heap_alloc_new w _)];exact hv
 have k0:=hcell 0 _ rfl;have k1:=hcell 1 _ rfl;have k3:=hcell 3 _ rfl;have g0:=h0.below hA;have g1:=h1.below hA;have g3:=h3.below hA;have hz:w.heap.size<(w.alloc (.cells #[.slice a0 n0 c0,.slice a1 n1 c1,.bool f,.slice a3 n3 c3] 55)).heap.size:=by simp
 go_enter Tryz.func70,Tryz.ntmps70
 go_wp2
 generalize hW:w.alloc (.cells #[.slice a0 n0 c0,.slice a1 n1 c1,.bool f,.slice a3 n3 c3] 55)=W at hA k0 k1 k3 g0 g1 g3 hz ⊢;clear hW hcell h0 h1 h3;go_loopw [4] (fun i wr=>∃j:Nat,j<=n0/\i=.int .i64 j/\(ss.take j).all cR=true/\aP W wr) (fun i _=>n0-(intOf i).toNat)
 case atStart=>exact ⟨0,Nat.zero_le _,rfl,rfl,aP.refl _⟩
 obtain ⟨j,hj,rfl,ht,hs⟩:=hrel;have q0:=(hs.cell _).trans k0;by_cases hjn:j<n0
 . rcases hJ rfl g0 with h0'|⟨b,off,rfl,hbl,hcs⟩
   . omega
   have hdj:ss[j]?=some (ss[j]'(by omega)):=List.getElem?_eq_getElem (by omega);generalize ss[j]'(by omega)=x at hdj;have hal:=jZ (p:=cR) hdj;have hil:=eZ hdj;obtain ⟨v,hv,hrv⟩:=hcs j x hdj;obtain ⟨av,cv,rfl⟩:=aC hrv;have q1:=(hs.cell ⟨b,off+j,none⟩).trans hv;obtain ⟨r1,_,_,_⟩:=aR (hrv.same hs);have HT:=aa ht;clear hcs hdj hv hrv ht;by_cases hx:cR x=true
   . have HD:=aa (hal.1 hx HT.out)
     clear hal;go_wp2_with fail
     refine (ew _ _ _ _ x rfl r1 (by omega)).mono ?_
     rintro e w1 ⟨rfl,hs1⟩;go_wp2
     go_roundw
     case rel=>exact ⟨j+1,by omega,by go_num,HD.out,hs.trans hs1⟩
     case measure=>simp [intOf];omega
   have hx:cR x=false:=by simpa using hx
   have HN:=aa (hal.2 hx);clear hal;go_wp2_with fail
   refine (ew _ _ _ _ x rfl r1 (by omega)).mono ?_
   rintro e w1 ⟨rfl,hs1⟩;go_wp2
   go_ret
   exact ⟨ah (by unfold bF;rw [HN.out];rfl),Below.andSame (Below.andSame hA hs) hs1⟩
 have e:j=n0:=by omega
 subst e;rw [List.take_of_length_le (by omega)] at ht;have HS0:=aa ht;have hss:ss.length=j:=hl0;clear ht hj hjn q0;go_wp2
 go_loopw [5] (fun i wr=>∃i2:Nat,i2<=n1/\i=.int .i64 i2/\(cs.take i2).all (wrB j)=true/\aP W wr) (fun i _=>n1-(intOf i).toNat)
 case atStart=>exact ⟨0,Nat.zero_le _,rfl,rfl,hs⟩
 clear hs;obtain ⟨i2,hi2,rfl,ht,hs⟩:=hrel;have q1:=(hs.cell _).trans k1;by_cases hin:i2<n1
 . rcases cW rfl g1 with h0'|⟨b,off,rfl,hbl,hcs⟩
   . omega
   have hdj:cs[i2]?=some (cs[i2]'(by omega)):=List.getElem?_eq_getElem (by omega);generalize cs[i2]'(by omega)=x at hdj;have hal:=jZ (p:=wrB j) hdj;have hil:=cK hdj;obtain ⟨v0,v1,hv0,hv1,hrv⟩:=hcs i2 x hdj;obtain ⟨rfl,hrv'⟩:=eL hrv;obtain ⟨av,cv,rfl⟩:=aC hrv';have p0:=(hs.cell ⟨b,off+i2*2,none⟩).trans hv0;have p1:=(hs.cell ⟨b,off+i2*2+1,none⟩).trans hv1;obtain ⟨r1,_,_,_⟩:=aR (hrv'.same hs);obtain ⟨x0,x1⟩:=x;simp only at p0 p1 r1 hil
   have HT:=aa ht;clear hcs hdj hv0 hv1 hrv hrv' ht;by_cases hI:inB x0 0 ((j:Int)-1)=true
   . by_cases hx:cR x1=true
     . have HD:=aa (hal.1 (by unfold wrB;simp only;rw [hI,hx];rfl) HT.out)
       clear hal;go_wp2_with fail
       refine (aE _ _ _ _).mono ?_
       rintro e w1 ⟨rfl,hw1'⟩;subst w1;go_wp2_with fail
       refine (ew _ _ _ _ x1 rfl r1 (by omega)).mono ?_
       rintro e w2 ⟨rfl,hs2⟩;go_wp2
       go_roundw
       case rel=>exact ⟨i2+1,by omega,by go_num,HD.out,hs.trans hs2⟩
       case measure=>simp [intOf];omega
     have hx:cR x1=false:=by simpa using hx
     have HN:=aa (hal.2 (by unfold wrB;simp only;rw [hI,hx];rfl));clear hal;go_wp2_with fail
     refine (aE _ _ _ _).mono ?_
     rintro e w1 ⟨rfl,hw1'⟩;subst w1;go_wp2_with fail
     refine (ew _ _ _ _ x1 rfl r1 (by omega)).mono ?_
     rintro e w2 ⟨rfl,hs2⟩;go_wp2
     go_ret
     exact ⟨ah (by unfold bF;rw [hss,HN.out,HS0.out];rfl),Below.andSame (Below.andSame hA hs) hs2⟩
   have hI:inB x0 0 ((j:Int)-1)=false:=by simpa using hI
   have HN:=aa (hal.2 (by unfold wrB;simp only;rw [hI];rfl));clear hal;go_wp2_with fail
   refine (aE _ _ _ _).mono ?_
   rintro e w1 ⟨rfl,hw1'⟩;subst w1;go_wp2
   go_ret
   exact ⟨ah (by unfold bF;rw [hss,HN.out,HS0.out];rfl),Below.andSame hA hs⟩
 have e2:i2=n1:=by omega
 subst e2;rw [List.take_of_length_le (by omega)] at ht;have HS1:=aa ht;have hcsl:cs.length=i2:=hl1;clear ht hi2 hin;go_wp2
 go_loopw [6] (fun i wr=>∃i3:Nat,i3<=n3/\i=.int .i64 i3/\(List.range i3).all (dV j bs)=true/\aP W wr) (fun i _=>n3-(intOf i).toNat)
 case atStart=>exact ⟨0,Nat.zero_le _,rfl,rfl,hs⟩
 clear hs;obtain ⟨i3,hi3,rfl,ht,hs⟩:=hrel;have q3:=(hs.cell _).trans k3;by_cases hi3n:i3<n3
 . obtain ⟨R3,_,_,_⟩:=aR g3
   rcases R3.cases with h0'|⟨b,off,rfl,hbl,hcs⟩
   . omega
   have p0:=(hs.cell ⟨b,off+i3,none⟩).trans (hcs i3 (by omega));have HT:=aa ht;have hrs:(List.range (i3+1)).all (dV j bs)=((List.range i3).all (dV j bs)&&dV j bs i3):=by rw [List.range_succ,List.all_append];simp
   have hrn:dV j bs i3=false->iJ j bs=false:=by
    intro h;unfold iJ;rw [List.all_eq_false];exact ⟨i3,by simp;omega,by simp [h]⟩
   have hbd:dV j bs i3=(inB (bs.getD i3 0) 0 ((j:Int)-1)&&(decide (i3=0)||decide (bs.getD (i3-1) 0<bs.getD i3 0))):=rfl;have i1:(0:Int)<=(i3:Int):=by omega
   have i2':(i3:Int)<(n3:Int):=by omega
   have gw:IntKind.i64.wrap ((j:Int)-1)=(j:Int)-1:=IntWalk.i64_in _ (by omega);by_cases hI:inB (bs.getD i3 0) 0 ((j:Int)-1)=true
   . by_cases hz3:i3=0
     . have HD:Hid ((List.range (i3+1)).all (dV j bs)=true):=by unfold Hid;rw [hrs,HT.out,hbd,hI,decide_eq_true hz3];rfl
       generalize bs.getD i3 0=y at p0 hI;have d0:decide ((0:Int)<(i3:Int))=false:=decide_eq_false (by omega);have d0b:decide (0<i3)=false:=decide_eq_false (by omega);have HZ:=aa hz3;clear hcs ht hrs hrn hbd hz3 R3;go_wp2_with fail
       go_quiet ((go_at_call 34;exact Calls.quiet_of_same (aE _ _ _ _)))
       go_wp2
       go_roundw
       case rel=>exact ⟨i3+1,by omega,by go_num,HD.out,hs.drewN _⟩
       case measure=>simp [intOf];omega
     have p1:=(hs.cell ⟨b,off+(i3-1),none⟩).trans (hcs (i3-1) (by omega));have d0:decide ((0:Int)<(i3:Int))=true:=decide_eq_true (by omega);have d0b:decide (0<i3)=true:=decide_eq_true (by omega);have gv:IntKind.i64.wrap ((i3:Int)-1)=(i3:Int)-1:=IntWalk.i64_in _ (by omega);have gt:((i3:Int)-1).toNat=i3-1:=by omega
     have i3a:(0:Int)<=(i3:Int)-1:=by omega
     have i3b:(i3:Int)-1<(n3:Int):=by omega
     by_cases hlt:bs.getD (i3-1) 0<bs.getD i3 0
     . have HD:Hid ((List.range (i3+1)).all (dV j bs)=true):=by unfold Hid;rw [hrs,HT.out,hbd,hI,decide_eq_true hlt];simp
       generalize bs.getD i3 0=y at p0 hI hlt;generalize bs.getD (i3-1) 0=z at p1 hlt;have d1:¬y<=z:=by omega
       clear hcs ht hrs hrn hbd hz3 R3;go_wp2_with fail
       go_quiet ((go_at_call 34;exact Calls.quiet_of_same (aE _ _ _ _)))
       go_wp2
       go_roundw
       case rel=>exact ⟨i3+1,by omega,by go_num,HD.out,hs.drewN _⟩
       case measure=>simp [intOf];omega
     have HN:=aa (hrn (by rw [hbd,hI,decide_eq_false hz3,decide_eq_false hlt];rfl));generalize bs.getD i3 0=y at p0 hI hlt;generalize bs.getD (i3-1) 0=z at p1 hlt;have d1:y<=z:=by omega
     clear hcs ht hrs hrn hbd hz3 R3;go_wp2_with fail
     go_quiet ((go_at_call 34;exact Calls.quiet_of_same (aE _ _ _ _)))
     go_wp2
     go_ret
     exact ⟨ah (by unfold bF;rw [hss,HN.out,HS1.out,HS0.out];rfl),Below.andSame hA (hs.drewN _)⟩
   have hI:inB (bs.getD i3 0) 0 ((j:Int)-1)=false:=by simpa using hI
   have HN:=aa (hrn (by rw [hbd,hI];rfl));generalize bs.getD i3 0=y at p0 hI;clear hcs ht hrs hrn hbd R3;go_wp2_with fail
   go_quiet ((go_at_call 34;exact Calls.quiet_of_same (aE _ _ _ _)))
   go_wp2
   go_ret
   exact ⟨ah (by unfold bF;rw [hss,HN.out,HS1.out,HS0.out];rfl),Below.andSame hA (hs.drewN _)⟩
 have e3:i3=n3:=by omega
 have HB:Hid (iJ j bs=true):=by unfold Hid iJ;rw [hl3,←e3];exact ht
 clear ht hi3;have q1:=(hs.cell _).trans k1;by_cases hI:inB (j:Int) 1 20=true
 . by_cases h60:(i2:Int)<=60
   . have h60':i2<=60:=by omega
     have H60:=aa (decide_eq_true h60');clear h60';go_wp2_with fail
     refine (aE _ _ _ _).mono ?_
     rintro e w1 ⟨rfl,hw1'⟩;subst w1;go_wp2
     go_ret
     exact ⟨ah (by unfold bF;rw [hss,hcsl,HB.out,HS1.out,HS0.out,hI,H60.out];rfl),Below.andSame hA hs⟩
   have h60':¬i2<=60:=by omega
   have H60:=aa (decide_eq_false h60');clear h60';go_wp2_with fail
   refine (aE _ _ _ _).mono ?_
   rintro e w1 ⟨rfl,hw1'⟩;subst w1;go_wp2
   go_ret
   exact ⟨ah (by unfold bF;rw [hss,hcsl,HB.out,HS1.out,HS0.out,hI,H60.out,decide_eq_false (by omega)];rfl),Below.andSame hA hs⟩
 have hI:inB (j:Int) 1 20=false:=by simpa using hI
 go_wp2_with fail
 refine (aE _ _ _ _).mono ?_
 rintro e w1 ⟨rfl,hw1'⟩;subst w1;go_wp2
 go_ret
 exact ⟨ah (by unfold bF;rw [hss,HB.out,HS1.out,HS0.out,hI];rfl),Below.andSame hA hs⟩
theorem di (w:World) (a0:Option Addr) (n0 c0:Nat) (v1 v2 v3:Value) (x:Int):
 Calls Tryz.prog 87 #[.agg #[.slice a0 n0 c0,v1,v2,v3],.int .i64 x] w fun e w'=>e=.returned (.bool (inB x 0 ((n0:Int)-1)))/\Below w.heap.size w w':=by
 have hA:Below w.heap.size w (w.alloc (.cells #[.slice a0 n0 c0,v1,v2,v3] 55)):=(Below.refl _ _).alloc (Nat.le_refl _) _;have hcell:(w.alloc (.cells #[.slice a0 n0 c0,v1,v2,v3] 55)).cell? ⟨w.heap.size,0,none⟩=some (.slice a0 n0 c0):=by
  rw [cell_of_row _ w.heap.size 0 _ _ (0,0) (heap_alloc_new w _)];rfl
 by_cases h0:0<=x
 . by_cases h1:x<(n0:Int)
   . go_enter Tryz.func87,Tryz.ntmps87
     go_wp2
     go_ret
     exact ⟨ah (by symm;unfold inB;simp;omega),hA⟩
   go_enter Tryz.func87,Tryz.ntmps87
   go_wp2
   go_ret
   exact ⟨ah (by symm;unfold inB;simp;omega),hA⟩
 go_enter Tryz.func87,Tryz.ntmps87
 go_wp2
 go_ret
 exact ⟨ah (by symm;unfold inB;simp;omega),hA⟩
theorem uv (w:World) (a0:Option Addr) (n0 c0:Nat) (v1 v2:Value) (a3:Option Addr) (n3 c3:Nat) (bs:List Int) (h3:aD.Rd w [.slice a3 n3 c3] bs):
 Calls Tryz.prog 97 #[.agg #[.slice a0 n0 c0,v1,v2,.slice a3 n3 c3]] w fun e w'=>e=.returned (.bool (iJ n0 bs))/\Below w.heap.size w w':=by
 obtain ⟨hl3,_,hm3⟩:=ag h3;have hA:Below w.heap.size w (w.alloc (.cells #[.slice a0 n0 c0,v1,v2,.slice a3 n3 c3] 55)):=(Below.refl _ _).alloc (Nat.le_refl _) _;have hcell:∀j v,(#[Value.slice a0 n0 c0,v1,v2,.slice a3 n3 c3])[j]?=some v->(w.alloc (.cells #[.slice a0 n0 c0,v1,v2,.slice a3 n3 c3] 55)).cell? ⟨w.heap.size,j,none⟩=some v:=by
  intro j v hv;rw [cell_of_row _ w.heap.size j _ _ (0,0) (heap_alloc_new w _)];exact hv
 have k0:=hcell 0 _ rfl;have k1:=hcell 1 _ rfl;have k2:=hcell 2 _ rfl;have k3:=hcell 3 _ rfl;have g3:=h3.below hA;have hz:w.heap.size<(w.alloc (.cells #[.slice a0 n0 c0,v1,v2,.slice a3 n3 c3] 55)).heap.size:=by simp
 go_enter Tryz.func97,Tryz.ntmps97
 go_wp2
 generalize hW:w.alloc (.cells #[.slice a0 n0 c0,v1,v2,.slice a3 n3 c3] 55)=W at hA k0 k1 k2 k3 g3 hz ⊢;clear hW hcell h3;go_loopw [8] (fun i wr=>∃i3:Nat,i3<=n3/\i=.int .i64 i3/\(List.range i3).all (dV n0 bs)=true/\Below W.heap.size W wr) (fun i _=>n3-(intOf i).toNat)
 case atStart=>exact ⟨0,Nat.zero_le _,rfl,rfl,Below.refl _ _⟩
 obtain ⟨i3,hi3,rfl,ht,hs⟩:=hrel;have q0:=(hs.cell (p:=⟨w.heap.size,0,none⟩) hz).trans k0;have q1:=(hs.cell (p:=⟨w.heap.size,1,none⟩) hz).trans k1;have q2:=(hs.cell (p:=⟨w.heap.size,2,none⟩) hz).trans k2;have q3:=(hs.cell (p:=⟨w.heap.size,3,none⟩) hz).trans k3;have hzr:w.heap.size<wr.heap.size:=Nat.lt_of_lt_of_le hz hs.size;by_cases hi3n:i3<n3
 . obtain ⟨R3,_,_,_⟩:=aR g3
   rcases R3.cases with h0'|⟨b,off,rfl,hbl,hcs⟩
   . omega
   have hbr:b<wr.heap.size:=Nat.lt_of_lt_of_le hbl hs.size;have p0:=(hs.cell (p:=⟨b,off+i3,none⟩) hbl).trans (hcs i3 (by omega));have HT:=aa ht;have hrs:(List.range (i3+1)).all (dV n0 bs)=((List.range i3).all (dV n0 bs)&&dV n0 bs i3):=by rw [List.range_succ,List.all_append];simp
   have hrn:dV n0 bs i3=false->iJ n0 bs=false:=by
    intro h;unfold iJ;rw [List.all_eq_false];exact ⟨i3,by simp;omega,by simp [h]⟩
   have hbd:dV n0 bs i3=(inB (bs.getD i3 0) 0 ((n0:Int)-1)&&(decide (i3=0)||decide (bs.getD (i3-1) 0<bs.getD i3 0))):=rfl;have i1:(0:Int)<=(i3:Int):=by omega
   have i2':(i3:Int)<(n3:Int):=by omega
   by_cases hI:inB (bs.getD i3 0) 0 ((n0:Int)-1)=true
   . by_cases hz3:i3=0
     . have HD:Hid ((List.range (i3+1)).all (dV n0 bs)=true):=by unfold Hid;rw [hrs,HT.out,hbd,hI,decide_eq_true hz3];rfl
       generalize bs.getD i3 0=y at p0 hI;have d0:decide ((0:Int)<(i3:Int))=false:=decide_eq_false (by omega);have d0b:decide (0<i3)=false:=decide_eq_false (by omega);have HZ:=aa hz3;clear hcs ht hrs hrn hbd hz3 R3;go_wp2_with fail
       refine (di _ _ _ _ _ _ _ _).mono ?_
       rintro e w5 ⟨rfl,hb5'⟩;have r0:=(hb5'.cell (p:=⟨w.heap.size,0,none⟩) hzr).trans q0;have r1:=(hb5'.cell (p:=⟨w.heap.size,1,none⟩) hzr).trans q1;have r2:=(hb5'.cell (p:=⟨w.heap.size,2,none⟩) hzr).trans q2;have r3:=(hb5'.cell (p:=⟨w.heap.size,3,none⟩) hzr).trans q3;have hs5:=hs.trans (hb5'.mono hs.size);clear q0 q1 q2 q3 hb5';go_wp2
       go_roundw
       case rel=>exact ⟨i3+1,by omega,by go_num,HD.out,hs5⟩
       case measure=>simp [intOf];omega
     have p1:=(hs.cell (p:=⟨b,off+(i3-1),none⟩) hbl).trans (hcs (i3-1) (by omega));have d0:decide ((0:Int)<(i3:Int))=true:=decide_eq_true (by omega);have d0b:decide (0<i3)=true:=decide_eq_true (by omega);have gv:IntKind.i64.wrap ((i3:Int)-1)=(i3:Int)-1:=IntWalk.i64_in _ (by omega);have gt:((i3:Int)-1).toNat=i3-1:=by omega
     have i3a:(0:Int)<=(i3:Int)-1:=by omega
     have i3b:(i3:Int)-1<(n3:Int):=by omega
     by_cases hlt:bs.getD (i3-1) 0<bs.getD i3 0
     . have HD:Hid ((List.range (i3+1)).all (dV n0 bs)=true):=by unfold Hid;rw [hrs,HT.out,hbd,hI,decide_eq_true hlt];simp
       generalize bs.getD i3 0=y at p0 hI hlt;generalize bs.getD (i3-1) 0=z at p1 hlt;have d1:¬y<=z:=by omega
       clear hcs ht hrs hrn hbd hz3 R3;go_wp2_with fail
       refine (di _ _ _ _ _ _ _ _).mono ?_
       rintro e w5 ⟨rfl,hb5'⟩;have r0:=(hb5'.cell (p:=⟨w.heap.size,0,none⟩) hzr).trans q0;have r1:=(hb5'.cell (p:=⟨w.heap.size,1,none⟩) hzr).trans q1;have r2:=(hb5'.cell (p:=⟨w.heap.size,2,none⟩) hzr).trans q2;have r3:=(hb5'.cell (p:=⟨w.heap.size,3,none⟩) hzr).trans q3;have p2:=(hb5'.cell (p:=⟨b,off+(i3-1),none⟩) hbr).trans p1;have hs5:=hs.trans (hb5'.mono hs.size);clear q0 q1 q2 q3 hb5';go_wp2
       go_roundw
       case rel=>exact ⟨i3+1,by omega,by go_num,HD.out,hs5⟩
       case measure=>simp [intOf];omega
     have HN:=aa (hrn (by rw [hbd,hI,decide_eq_false hz3,decide_eq_false hlt];rfl));generalize bs.getD i3 0=y at p0 hI hlt;generalize bs.getD (i3-1) 0=z at p1 hlt;have d1:y<=z:=by omega
     clear hcs ht hrs hrn hbd hz3 R3;go_wp2_with fail
     refine (di _ _ _ _ _ _ _ _).mono ?_
     rintro e w5 ⟨rfl,hb5'⟩;have r0:=(hb5'.cell (p:=⟨w.heap.size,0,none⟩) hzr).trans q0;have r1:=(hb5'.cell (p:=⟨w.heap.size,1,none⟩) hzr).trans q1;have r2:=(hb5'.cell (p:=⟨w.heap.size,2,none⟩) hzr).trans q2;have r3:=(hb5'.cell (p:=⟨w.heap.size,3,none⟩) hzr).trans q3;have p2:=(hb5'.cell (p:=⟨b,off+(i3-1),none⟩) hbr).trans p1;have hs5:=hs.trans (hb5'.mono hs.size);clear q0 q1 q2 q3 hb5';go_wp2
     go_ret
     exact ⟨ah HN.out.symm,Below.andThen hA hs5⟩
   have hI:inB (bs.getD i3 0) 0 ((n0:Int)-1)=false:=by simpa using hI
   have HN:=aa (hrn (by rw [hbd,hI];rfl));generalize bs.getD i3 0=y at p0 hI;clear hcs ht hrs hrn hbd R3;go_wp2_with fail
   refine (di _ _ _ _ _ _ _ _).mono ?_
   rintro e w5 ⟨rfl,hb5'⟩;have r0:=(hb5'.cell (p:=⟨w.heap.size,0,none⟩) hzr).trans q0;have r1:=(hb5'.cell (p:=⟨w.heap.size,1,none⟩) hzr).trans q1;have r2:=(hb5'.cell (p:=⟨w.heap.size,2,none⟩) hzr).trans q2;have r3:=(hb5'.cell (p:=⟨w.heap.size,3,none⟩) hzr).trans q3;have hs5:=hs.trans (hb5'.mono hs.size);clear q0 q1 q2 q3 hb5';go_wp2
   go_ret
   exact ⟨ah HN.out.symm,Below.andThen hA hs5⟩
 have e3:i3=n3:=by omega
 have HB:Hid (iJ n0 bs=true):=by unfold Hid iJ;rw [hl3,←e3];exact ht
 clear ht hi3;go_wp2
 go_ret
 exact ⟨ah HB.out.symm,Below.andThen hA hs⟩
theorem bG (w:World) (E:TypeId) (a0 a1 a3:Option Addr) (n0 c0 n1 c1 n3 c3:Nat) (ss:List (List Int)) (cs:List (Int×List Int)) (f:Bool) (bs:List Int) (h0:aU.Rd w [.slice a0 n0 c0] ss) (h1:(aW E).Rd w [.slice a1 n1 c1] cs) (h3:aD.Rd w [.slice a3 n3 c3] bs) (hw:aM (ss,cs,f,bs)<=2097152):
 Calls Tryz.prog 66 #[.agg #[.slice a0 n0 c0,.slice a1 n1 c1,.bool f,.slice a3 n3 c3]] w fun e w'=>e=.returned (.bool (bF ss cs bs))/\Below w.heap.size w w':=by
 obtain ⟨hl0,_,hm0⟩:=ag h0;obtain ⟨hl1,_,hm1⟩:=ag h1;obtain ⟨hl3,_,hm3⟩:=ag h3;have hw0:cA ss<=2097152:=by unfold aM at hw;simp only at hw;omega
 have hw1:aX cs<=2097152:=by unfold aM at hw;simp only at hw;omega
 have hA:Below w.heap.size w (w.alloc (.cells #[.slice a0 n0 c0,.slice a1 n1 c1,.bool f,.slice a3 n3 c3] 55)):=(Below.refl _ _).alloc (Nat.le_refl _) _;have hcell:∀j v,(#[Value.slice a0 n0 c0,.slice a1 n1 c1,.bool f,.slice a3 n3 c3])[j]?=some v->(w.alloc (.cells #[.slice a0 n0 c0,.slice a1 n1 c1,.bool f,.slice a3 n3 c3] 55)).cell? ⟨w.heap.size,j,none⟩=some v:=by
  intro j v hv;rw [cell_of_row _ w.heap.size j _ _ (0,0) (heap_alloc_new w _)];exact hv
 have k0:=hcell 0 _ rfl;have k1:=hcell 1 _ rfl;have k2:=hcell 2 _ rfl;have k3:=hcell 3 _ rfl;have g0:=h0.below hA;have g1:=h1.below hA;have g3:=h3.below hA;have hz:w.heap.size<(w.alloc (.cells #[.slice a0 n0 c0,.slice a1 n1 c1,.bool f,.slice a3 n3 c3] 55)).heap.size:=by simp
 by_cases c1':(1:Int)<=(n0:Int)
 . by_cases c2':(n0:Int)<=20
   . by_cases c3':(n1:Int)<=60
     . have hI0:inB (ss.length:Int) 1 20=true:=by unfold inB;rw [hl0];simp;omega
       have hI1:decide (cs.length<=60)=true:=decide_eq_true (by omega);have HI0:=aa hI0;have HI1:=aa hI1;clear hI0 hI1;go_enter Tryz.func66,Tryz.ntmps66
       go_wp2
       generalize hW:w.alloc (.cells #[.slice a0 n0 c0,.slice a1 n1 c1,.bool f,.slice a3 n3 c3] 55)=W at hA k0 k1 k2 k3 g0 g1 g3 hz ⊢;clear hW hcell h0 h1 h3;go_loopw [26] (fun i wr=>∃j:Nat,j<=n0/\i=.int .i64 j/\(ss.take j).all cR=true/\aP W wr) (fun i _=>n0-(intOf i).toNat)
       case atStart=>exact ⟨0,Nat.zero_le _,rfl,rfl,aP.refl _⟩
       obtain ⟨j,hj,rfl,ht,hs⟩:=hrel;by_cases hjn:j<n0
       . rcases hJ rfl g0 with h0'|⟨b,off,rfl,hbl,hcs⟩
         . omega
         have hdj:ss[j]?=some (ss[j]'(by omega)):=List.getElem?_eq_getElem (by omega);generalize ss[j]'(by omega)=x at hdj;have hal:=jZ (p:=cR) hdj;have hil:=eZ hdj;obtain ⟨v,hv,hrv⟩:=hcs j x hdj;obtain ⟨av,cv,rfl⟩:=aC hrv;have q1:=(hs.cell ⟨b,off+j,none⟩).trans hv;obtain ⟨r1,_,_,_⟩:=aR (hrv.same hs);have HT:=aa ht;clear hcs hdj hv hrv ht;by_cases hx:cR x=true
         . have HD:=aa (hal.1 hx HT.out)
           clear hal;go_wp2_with fail
           refine (cN _ _ _ _ x rfl r1 (by omega)).mono ?_
           rintro e w1 ⟨rfl,hs1⟩;go_wp2
           go_roundw
           case rel=>exact ⟨j+1,by omega,by go_num,HD.out,hs.trans hs1⟩
           case measure=>simp [intOf];omega
         have hx:cR x=false:=by simpa using hx
         have HN:=aa (hal.2 hx);clear hal;go_wp2_with fail
         refine (cN _ _ _ _ x rfl r1 (by omega)).mono ?_
         rintro e w1 ⟨rfl,hs1⟩;go_wp2
         go_ret
         exact ⟨ah (by unfold bF;rw [HN.out];rfl),Below.andSame (Below.andSame hA hs) hs1⟩
       have e:j=n0:=by omega
       subst e;rw [List.take_of_length_le (by omega)] at ht;have HS0:=aa ht;have hss:ss.length=j:=hl0;have q1:=(hs.cell _).trans k1;clear ht hj hjn;go_wp2
       clear q1;go_loopw [37] (fun i wr=>∃i2:Nat,i2<=n1/\i=.int .i64 i2/\(cs.take i2).all (wrB j)=true/\Below W.heap.size W wr) (fun i _=>n1-(intOf i).toNat)
       case atStart=>exact ⟨0,Nat.zero_le _,rfl,rfl,hs.below _⟩
       clear hs;obtain ⟨i2,hi2,rfl,ht,hs⟩:=hrel;have hzr:w.heap.size<wr.heap.size:=Nat.lt_of_lt_of_le hz hs.size;have q0:=(hs.cell (p:=⟨w.heap.size,0,none⟩) hz).trans k0;have q1:=(hs.cell (p:=⟨w.heap.size,1,none⟩) hz).trans k1;have q2:=(hs.cell (p:=⟨w.heap.size,2,none⟩) hz).trans k2;have q3:=(hs.cell (p:=⟨w.heap.size,3,none⟩) hz).trans k3;by_cases hin:i2<n1
       . rcases cW rfl g1 with h0'|⟨b,off,rfl,hbl,hcs⟩
         . omega
         have hdj:cs[i2]?=some (cs[i2]'(by omega)):=List.getElem?_eq_getElem (by omega);generalize cs[i2]'(by omega)=x at hdj;have hal:=jZ (p:=wrB j) hdj;have hil:=cK hdj;obtain ⟨v0,v1,hv0,hv1,hrv⟩:=hcs i2 x hdj;obtain ⟨rfl,hrv'⟩:=eL hrv;obtain ⟨av,cv,rfl⟩:=aC hrv';have p0:=(hs.cell (p:=⟨b,off+i2*2,none⟩) hbl).trans hv0;have p1:=(hs.cell (p:=⟨b,off+i2*2+1,none⟩) hbl).trans hv1;have r0:=hrv'.below hs;obtain ⟨x0,x1⟩:=x;simp only at p0 p1 r0 hil
         have HT:=aa ht;clear hcs hdj hv0 hv1 hrv hrv' ht;have hB:Below wr.heap.size wr (wr.alloc (.cells #[.int .i64 x0,.slice av x1.length cv] 119)):=(Below.refl _ _).alloc (Nat.le_refl _) _;have s0:(wr.alloc (.cells #[.int .i64 x0,.slice av x1.length cv] 119)).cell? ⟨wr.heap.size,1,none⟩=some (.slice av x1.length cv):=by
          rw [cell_of_row _ wr.heap.size 1 _ _ (0,0) (heap_alloc_new wr _)];rfl
         have zb:wr.heap.size<(wr.alloc (.cells #[.int .i64 x0,.slice av x1.length cv] 119)).heap.size:=by simp
         have HB:=aa hB;have S0:=aa s0;have ZB:=aa zb;clear hB s0 zb;by_cases hI:inB x0 0 ((j:Int)-1)=true
         . by_cases hx:cR x1=true
           . have HD:=aa (hal.1 (by unfold wrB;simp only;rw [hI,hx];rfl) HT.out)
             clear hal;go_wp2_with fail
             refine (di _ _ _ _ _ _ _ _).mono ?_
             rintro e w5 ⟨rfl,hb5⟩;have HB6:=aa (Below.andThen HB.out hb5);have s1:=(hb5.cell (p:=⟨wr.heap.size,1,none⟩) ZB.out).trans S0.out;clear hb5;go_wp2_with fail
             refine (cN _ _ _ _ x1 rfl (aR (r0.below HB6.out)).1 (by omega)).mono ?_
             rintro e w6 ⟨rfl,hs6⟩;go_wp2
             go_roundw
             case rel=>exact ⟨i2+1,by omega,by go_num,HD.out,(hs.trans (HB6.out.mono hs.size)).trans (hs6.below _)⟩
             case measure=>simp [intOf];omega
           have hx:cR x1=false:=by simpa using hx
           have HN:=aa (hal.2 (by unfold wrB;simp only;rw [hI,hx];rfl));clear hal;go_wp2_with fail
           refine (di _ _ _ _ _ _ _ _).mono ?_
           rintro e w5 ⟨rfl,hb5⟩;have HB6:=aa (Below.andThen HB.out hb5);have s1:=(hb5.cell (p:=⟨wr.heap.size,1,none⟩) ZB.out).trans S0.out;clear hb5;go_wp2_with fail
           refine (cN _ _ _ _ x1 rfl (aR (r0.below HB6.out)).1 (by omega)).mono ?_
           rintro e w6 ⟨rfl,hs6⟩;go_wp2
           go_ret
           exact ⟨ah (by unfold bF;rw [hss,HN.out,HS0.out];rfl),Below.andSame (Below.andThen hA (hs.trans (HB6.out.mono hs.size))) hs6⟩
         have hI:inB x0 0 ((j:Int)-1)=false:=by simpa using hI
         have HN:=aa (hal.2 (by unfold wrB;simp only;rw [hI];rfl));clear hal;go_wp2_with fail
         refine (di _ _ _ _ _ _ _ _).mono ?_
         rintro e w5 ⟨rfl,hb5⟩;have HB6:=aa (Below.andThen HB.out hb5);clear hb5;go_wp2
         go_ret
         exact ⟨ah (by unfold bF;rw [hss,HN.out,HS0.out];rfl),Below.andThen hA (hs.trans (HB6.out.mono hs.size))⟩
       have e2:i2=n1:=by omega
       subst e2;rw [List.take_of_length_le (by omega)] at ht;have HS1:=aa ht;clear ht hi2 hin;have g3':=g3.below hs;go_wp2_with fail
       refine (uv _ _ _ _ _ _ _ _ _ bs g3').mono ?_
       rintro e w5 ⟨rfl,hb5⟩;go_wp2
       go_ret
       exact ⟨ah (by unfold bF;rw [HI0.out,HI1.out,hss,HS1.out,HS0.out];simp),Below.andThen (Below.andThen hA hs) hb5⟩
     have hI1:decide (cs.length<=60)=false:=decide_eq_false (by omega);have HI1:=aa hI1;clear hI1;go_enter Tryz.func66,Tryz.ntmps66
     go_wp2
     go_ret
     exact ⟨ah (by unfold bF;rw [HI1.out];simp),hA⟩
   have hI0:inB (ss.length:Int) 1 20=false:=by unfold inB;rw [hl0];simp;omega
   have HI0:=aa hI0;clear hI0;go_enter Tryz.func66,Tryz.ntmps66
   go_wp2
   go_ret
   exact ⟨ah (by unfold bF;rw [HI0.out];simp),hA⟩
 have hI0:inB (ss.length:Int) 1 20=false:=by unfold inB;rw [hl0];simp;omega
 have HI0:=aa hI0;clear hI0;go_enter Tryz.func66,Tryz.ntmps66
 go_wp2
 go_ret
 exact ⟨ah (by unfold bF;rw [HI0.out];simp),hA⟩
theorem Tryz.infoEnt:(Tryz.prog.info? 93).map (fun i=>(i.zero,i.size,i.bytes))=some (some (.agg #[.int .i64 0,.slice none 0 0]),2,32):=by kernel_rfl
theorem pb (w:World) (a:Option Addr) (len cap:Nat) (zs:List Int) (hz:zs.length=len) (hr:aJ .i64 w a zs) (hlen:len<=2097152):
 Calls Tryz.prog 162 #[.slice a len cap] w fun e w'=>e=.returned (.int .i64 (fJ zs))/\aP w w':=by
 go_enter Tryz.func162,Tryz.ntmps162
 go_wp2
 go_loop [3,4] (fun n i=>∃j:Nat,j<=len/\i=.int .i64 j/\n=.int .i64 (fJ (zs.take j))) (fun _ i=>len-(intOf i).toNat)
 case atStart=>exact ⟨0,Nat.zero_le _,rfl,rfl⟩
 obtain ⟨j,hj,rfl,rfl⟩:=hrel;by_cases hlt:j<len
 . rcases hr.cases with h0|⟨b,off,rfl,hbl,hc⟩
   . omega
   have hc1:=hc j (by omega);have HX:Hid (bits BinOp.xor IntKind.i64 (fJ (zs.take j)) (zs.getD j 0)=fJ (zs.take (j+1))):=pV (by omega) rfl;generalize zs.getD j 0=x at hc1 HX;clear hc;go_wp2
   go_round
   case rel=>exact ⟨j+1,by omega,by go_num,by rw [HX.out]⟩
   case measure=>simp [intOf];omega
 go_wp2
 go_ret
 have e:j=len:=by omega
 subst e;exact ⟨aF (by rw [List.take_of_length_le (by omega)]),aP.refl _⟩
theorem jD (w:World) (a:Option Addr) (len cap:Nat) (zs:List Int) (hz:zs.length=len) (hr:aJ .i64 w a zs) (hlen:len<=2097152):
 Calls Tryz.prog 81 #[.slice a len cap] w fun e w'=>e=.returned (.int .i64 (fJ zs))/\aP w w':=by
 go_enter Tryz.func81,Tryz.ntmps81
 go_wp2
 go_loop [3,8] (fun n i=>∃j:Nat,j<=len/\i=.int .i64 j/\n=.int .i64 (fJ (zs.take j))) (fun _ i=>len-(intOf i).toNat)
 case atStart=>exact ⟨0,Nat.zero_le _,rfl,rfl⟩
 obtain ⟨j,hj,rfl,rfl⟩:=hrel;by_cases hlt:j<len
 . rcases hr.cases with h0|⟨b,off,rfl,hbl,hc⟩
   . omega
   have hc1:=hc j (by omega);have HX:Hid (bits BinOp.xor IntKind.i64 (fJ (zs.take j)) (zs.getD j 0)=fJ (zs.take (j+1))):=pV (by omega) rfl;generalize zs.getD j 0=x at hc1 HX;clear hc;go_wp2
   go_round
   case rel=>exact ⟨j+1,by omega,by go_num,by rw [HX.out]⟩
   case measure=>simp [intOf];omega
 go_wp2
 go_ret
 have e:j=len:=by omega
 subst e;exact ⟨aF (by rw [List.take_of_length_le (by omega)]),aP.refl _⟩
end Go.Proofs.YtgjomldcnjjpaaaGreat
