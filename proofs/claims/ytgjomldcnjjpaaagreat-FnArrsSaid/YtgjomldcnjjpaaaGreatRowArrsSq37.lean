/-
 The codes of both sides, and a stripe as it is to be, by the program. Condition: the array weighs at most 2097152.
-/
import Derived.Test.YtgjomldcnjjpaaaGreatRowArrsSq33
import Derived.Test.YtgjomldcnjjpaaaGreatRowArrsSq19
import Derived.Test.YtgjomldcnjjpaaaGreatRowArrsSq12
import Derived.Test.YtgjomldcnjjpaaaGreatRowArrsSq10
import Derived.Test.YtgjomldcnjjpaaaGreatRowArrsSq4
import Derived.Test.YtgjomldcnjjpaaaGreatRowArrsSq28
import Derived.Test.YtgjomldcnjjpaaaGreatRowArrsSq34
import Derived.Test.YtgjomldcnjjpaaaGreatRowArrsSq31
import Derived.Test.YtgjomldcnjjpaaaGreatRowArrsSq16
import Derived.Test.YtgjomldcnjjpaaaGreatRowArrsSq26
import Derived.Test.YtgjomldcnjjpaaaGreatRowArrsSq7
import Derived.Test.YtgjomldcnjjpaaaGreatRowArrsSq2
import Derived.Test.YtgjomldcnjjpaaaGreatRowArrsSq32

set_option maxRecDepth 100000
set_option maxHeartbeats 8000000
set_option linter.unusedSimpArgs false

namespace Go.Proofs.YtgjomldcnjjpaaaGreat
open Go.RowKit

def dB (id n s role:Int):Sup:=⟨id,0,role,n,s,0,-1,0⟩
def dG (P:List Int) (j:Nat):List (Int×List Int):=(0,P) :: (List.range j).map fun (i:Nat)=>((i:Int)+6,[0])
def ex (P:List Int) (k j:Nat):List (List Int):=P :: (List.replicate 5 []++(List.replicate j [0]++List.replicate (k-j) []))
def mg (id n s:Int) (i:Nat):ai:=(ex (dE (dB id n s (i:Int))) s.toNat s.toNat,[],false,[])
def eo (id n s:Int) (j:Nat):List ai:=(List.range j).map fun (i:Nat)=>mg id n s i
def iu (id n s:Int):Bool:=bL n s&&inB id 1 60000
def dM (id n s:Int):aq:=if iu id n s=true then ⟨id,n,s,-1,0,0,0,0,-1,false,false⟩ else ⟨0,0,0,0,0,0,0,0,0,false,false⟩
def dr (id n s:Int):List ai:=if iu id n s=true then eo id n s n.toNat else []
theorem nw (id n s:Int) (j:Nat):eo id n s (j+1)=eo id n s j++[mg id n s j]:=by unfold eo;rw [List.range_succ,List.map_append];rfl
theorem ek (id n s:Int) (j:Nat):(eo id n s j).length=j:=by unfold eo;simp
theorem nx (P:List Int) (j:Nat):dG P (j+1)=dG P j++[((j:Int)+6,[0])]:=by unfold dG;rw [List.range_succ,List.map_append];rfl
theorem jr (P:List Int) (j:Nat):(dG P j).length=j+1:=by unfold dG;simp
theorem gx (P:List Int) (k j:Nat) (h:j<=k):(ex P k j).length=6+k:=by unfold ex;simp;omega
theorem js {id n s role:Int} (hg:bL n s=true) (hi:inB id 1 60000=true) (h0:0<=role) (h1:role<n):ft (dB id n s role)=true:=by
 obtain ⟨g1,g2,g3,g4⟩:=aB.1 hg;obtain ⟨i1,i2⟩:=aG.1 hi;rw [eV];unfold dB;dsimp only
 omega
theorem kc {x:Sup} (h:ft x=true):cR (dE x)=true:=by
 obtain ⟨⟨g1,g2,g3,g4⟩,hl,⟨r1,r2⟩,⟨i1,i2⟩,⟨e1,e2⟩,t1,t2⟩:=eV.1 h;unfold dE;rw [if_pos h];unfold cR dg isW;simp
 try omega
theorem nc:cR []=true:=rfl
theorem ny:cR [0]=true:=by decide
theorem en {k:Nat} (hk:k<=8):bC (6+(k:Int))=List.replicate (6+k) []:=by
 unfold bC;rw [if_pos (by omega),show (6+(k:Int)).toNat=6+k from (by omega)]
theorem nz {P:List Int} {k j:Nat} {cs:List (Int×List Int)} (hk:k<=8) (hj:cs.length<=60) (hc:∀x∈cs,0<=x.1/\x.1<6+(k:Int)/\cR x.2=true) (_:cR P=true/\j<=k):bF (bC (6+(k:Int))) cs []=true:=by
 rw [en hk];unfold bF;simp only [Bool.and_eq_true,List.all_eq_true,List.length_replicate,decide_eq_true_eq]
 refine ⟨fun x hx=>?_,fun x hx=>?_,rfl,aG.2 (by omega),hj⟩
 . rw [(List.mem_replicate.1 hx).2]
   exact nc
 obtain ⟨h1,h2,h3⟩:=hc x hx;unfold wrB;rw [h3,Bool.and_true];exact aG.2 (by omega)
theorem ly {P:List Int} {k j:Nat} (hP:cR P=true) (hj:j<=k):∀x∈dG P j,0<=x.1/\x.1<6+(k:Int)/\cR x.2=true:=by
 intro x hx;unfold dG at hx;rcases List.mem_cons.1 hx with rfl|hx
 . exact ⟨Int.le_refl _,by dsimp only;omega,hP⟩
 obtain ⟨i,hi,rfl⟩:=List.mem_map.1 hx;have:=List.mem_range.1 hi;exact ⟨by dsimp only;omega,by dsimp only;omega,ny⟩
theorem uw {k:Nat} {x:Sup} (hk:k<=8) (hx:ft x=true) (hg:x.gen=0):sS (bC (6+(k:Int))) [] false [] x=dG (dE x) 0/\sT (bC (6+(k:Int))) [] false [] x=[]:=by
 have hl:((bC (6+(k:Int))).length:Int)=6+k:=by rw [en hk];simp
 have hok:da (bC (6+(k:Int))) [] false [] (x.gen % 2) (dE x)=true:=by
  unfold da;rw [nz (P:=dE x) (j:=0) hk (by simp) (by simp) ⟨kc hx,Nat.zero_le _⟩,kc hx,hl,hg];simp
  exact aG.2 (by omega)
 unfold sS sT;rw [if_pos hx,if_pos hx];unfold dS dT;rw [if_pos hok,if_pos hok,hg];exact ⟨rfl,rfl⟩
theorem ux {P:List Int} {k j:Nat} (hP:cR P=true) (hk:k<=8) (hj:j<k):dS (bC (6+(k:Int))) (dG P j) false [] (bE (j:Int)) [0]=dG P (j+1)/\dT (bC (6+(k:Int))) (dG P j) false [] (bE (j:Int)) [0]=[]:=by
 have hl:((bC (6+(k:Int))).length:Int)=6+k:=by rw [en hk];simp
 have hd:bE (j:Int)=(j:Int)+6:=by unfold bE;rw [if_pos (by omega)]
 have hok:da (bC (6+(k:Int))) (dG P j) false [] (bE (j:Int)) [0]=true:=by
  unfold da;rw [nz (P:=P) (j:=j) hk (by rw [jr];omega) (ly hP (Nat.le_of_lt hj)) ⟨hP,Nat.le_of_lt hj⟩,ny,hl,hd,jr];simp
  exact ⟨aG.2 (by omega),by omega⟩
 unfold dS dT;rw [if_pos hok,if_pos hok,hd,nx];exact ⟨rfl,rfl⟩
theorem rt (P:List Int) (q:Nat):∀j:Nat,cB (dG P j) (q:Int)=if q=0 then some P else if 6<=q/\q<6+j then some [0] else none
 | 0=>by
  unfold dG cB;simp
  by_cases h:q=0
  . simp [h]
  rw [if_neg (by omega),if_neg h,if_neg (by omega)]
 | j+1=>by
  rw [nx,iK,rt P q j];dsimp only
  by_cases h:q=j+6
  . rw [if_pos (by omega),if_neg (by omega),if_pos (by omega)]
  rw [if_neg (by omega)];by_cases h0:q=0
  . rw [if_pos h0,if_pos h0]
  rw [if_neg h0,if_neg h0];by_cases h1:6<=q/\q<6+j
  . rw [if_pos h1,if_pos (by omega)]
  rw [if_neg h1,if_neg (by omega)]
theorem jt {P:List Int} {k j q:Nat} (hj:j<=k) (hq:q<6+k):(ex P k j)[q]?=some (if q=0 then P else if 6<=q/\q<6+j then [0] else []):=by
 unfold ex;match q,hq with
 | 0,_=>rfl
 | q+1,hq=>
  rw [List.getElem?_cons_succ,if_neg (by omega)];by_cases h5:q<5
  . rw [List.getElem?_append_left (by simpa using h5),List.getElem?_replicate_of_lt h5,if_neg (by omega)]
  rw [List.getElem?_append_right (by simp;omega),List.length_replicate];by_cases h1:q-5<j
  . rw [List.getElem?_append_left (by simpa using h1),List.getElem?_replicate_of_lt h1,if_pos (by omega)]
  rw [List.getElem?_append_right (by simp;omega),List.length_replicate,List.getElem?_replicate_of_lt (by omega),if_neg (by omega)]
theorem uy {P:List Int} {k:Nat} (hP:cR P=true) (hk:k<=8):gW (bC (6+(k:Int))) (dG P k) false []=ex P k k/\ip (bC (6+(k:Int))) (dG P k) false []=[]:=by
 have hm:bF (bC (6+(k:Int))) (dG P k) []=true:=nz (P:=P) (j:=k) hk (by rw [jr];omega) (ly hP (Nat.le_refl _)) ⟨hP,Nat.le_refl _⟩;have hf:(bF (bC (6+(k:Int))) (dG P k) []&&!false)=true:=by rw [hm];rfl
 constructor
 . unfold gW
   rw [if_pos hf];have hl:(bC (6+(k:Int))).length=6+k:=by rw [en hk];simp
   refine dF (n:=6+k) (by rw [cD,hl]) (gx _ _ _ (Nat.le_refl _)) (fun q hq=>?_)
   rw [gG (by omega),jt (Nat.le_refl _) hq,rt];have hg:(bC (6+(k:Int))).getD q []=[]:=by
    rw [en hk,List.getD_eq_getElem?_getD,List.getElem?_replicate_of_lt hq];rfl
   rw [hg];by_cases h0:q=0
   . rw [if_pos h0,if_pos h0];rfl
   rw [if_neg h0,if_neg h0];by_cases h1:6<=q/\q<6+k
   . rw [if_pos h1,if_pos h1];rfl
   rw [if_neg h1,if_neg h1];rfl
 unfold ip;rw [if_pos hf]
theorem sU {P:List Int} {k:Nat} (hk:k<=8):(bC (6+(k:Int))).set 0 P=ex P k 0:=by
 rw [en hk,show 6+k=(5+k)+1 by omega,List.replicate_succ,List.set_cons_zero];unfold ex;rw [List.replicate_zero,List.nil_append,Nat.sub_zero,List.replicate_append_replicate]
theorem uz {P:List Int} {k j:Nat} (hj:j<k):(ex P k j).set (6+j) [0]=ex P k (j+1):=by
 refine dF (n:=6+k) (by rw [List.length_set];exact gx _ _ _ (Nat.le_of_lt hj)) (gx _ _ _ hj) (fun q hq=>?_)
 rw [jt hj hq];by_cases h:q=6+j
 . subst h
   rw [List.getElem?_set_self (by rw [gx _ _ _ (Nat.le_of_lt hj)];omega),if_neg (by omega),if_pos (by omega)]
 rw [List.getElem?_set_ne (fun e=>h e.symm),jt (Nat.le_of_lt hj) hq];by_cases h0:q=0
 . rw [if_pos h0,if_pos h0]
 rw [if_neg h0,if_neg h0];by_cases h1:6<=q/\q<6+j
 . rw [if_pos h1,if_pos (by omega)]
 rw [if_neg h1,if_neg (by omega)]
theorem qx:∀(l:List (List Int)),(∀x∈l,cR x=true)->du (l.map List.length)<=12*l.length
 | [],_=>Nat.le_refl _
 | x :: l,h=>by
  have h1:=qx l (fun y hy=>h y (List.mem_cons_of_mem _ hy));have h2:=h x List.mem_cons_self;unfold cR at h2;simp only [Bool.and_eq_true,decide_eq_true_eq] at h2
  have h3:du ((x :: l).map List.length)=x.length+du (l.map List.length):=rfl;rw [h3,List.length_cons];omega
theorem ru:∀(l:List (Int×List Int)),(∀x∈l,cR x.2=true)->du (l.map fun x=>x.2.length)<=12*l.length
 | [],_=>Nat.le_refl _
 | x :: l,h=>by
  have h1:=ru l (fun y hy=>h y (List.mem_cons_of_mem _ hy));have h2:=h x List.mem_cons_self;unfold cR at h2;simp only [Bool.and_eq_true,decide_eq_true_eq] at h2
  have h3:du ((x :: l).map fun x=>x.2.length)=x.2.length+du (l.map fun x=>x.2.length):=rfl;rw [h3,List.length_cons];omega
theorem sV {P:List Int} {k j:Nat} (hP:cR P=true) (hk:k<=8) (hj:j<=k):aM (bC (6+(k:Int)),dG P j,false,[])<=2097152:=by
 have h1:=qx (bC (6+(k:Int))) (fun x hx=>by rw [en hk] at hx;rw [(List.mem_replicate.1 hx).2];exact nc);have h2:=ru (dG P j) (fun x hx=>(ly hP hj x hx).2.2);have h3:=jr P j;have h4:(bC (6+(k:Int))).length=6+k:=by rw [en hk];simp
 unfold aM cA aX;dsimp only
 rw [List.length_nil];omega
theorem vu {id n s:Int} {i:Nat} (hg:bL n s=true) (hi:inB id 1 60000=true) (h:(i:Int)<n):aM (mg id n s i)<=1000:=by
 obtain ⟨g1,g2,g3,g4⟩:=aB.1 hg;have hP:=kc (js hg hi (Int.natCast_nonneg i) h);have h1:=qx (ex (dE (dB id n s (i:Int))) s.toNat s.toNat) (fun x hx=>by
  unfold ex at hx;rcases List.mem_cons.1 hx with rfl|hx
  . exact hP
  rcases List.mem_append.1 hx with hx|hx
  . rw [(List.mem_replicate.1 hx).2];exact nc
  rcases List.mem_append.1 hx with hx|hx
  . rw [(List.mem_replicate.1 hx).2];exact ny
  rw [(List.mem_replicate.1 hx).2];exact nc)
 have h2:=gx (dE (dB id n s (i:Int))) s.toNat s.toNat (Nat.le_refl _);unfold aM cA aX mg;dsimp only
 rw [List.length_nil,List.length_nil,List.map_nil,show du []=0 from rfl];omega
theorem vv {f:ai->Nat} {B:Nat}:∀(l:List ai),(∀x∈l,f x<=B)->du (l.map f)<=B*l.length
 | [],_=>Nat.le_refl _
 | x :: l,h=>by
  have h1:=vv l (fun y hy=>h y (List.mem_cons_of_mem _ hy));have h2:=h x List.mem_cons_self;have h3:du ((x :: l).map f)=f x+du (l.map f):=rfl;rw [h3,List.length_cons,Nat.mul_succ];omega
theorem vw (id n s:Int):bh (dr id n s) []<=2097152:=by
 unfold dr;by_cases h:iu id n s=true
 . rw [if_pos h]
   unfold iu at h;rw [Bool.and_eq_true] at h;obtain ⟨g1,g2,g3,g4⟩:=aB.1 h.1;have h1:=vv (f:=aM) (B:=1000) (eo id n s n.toNat) (fun x hx=>by
    unfold eo at hx;obtain ⟨i,hi,rfl⟩:=List.mem_map.1 hx;have:=List.mem_range.1 hi;exact vu h.1 h.2 (by omega))
   have h2:=ek id n s n.toNat;unfold bh aQ aX;rw [List.map_nil,show du []=0 from rfl,List.length_nil];omega
 rw [if_neg h];decide
def aY (id n s:Int):Prop:=bf (dM id n s) (dr id n s) []=true/\lI (dM id n s) (dr id n s) []=true/\jO (dM id n s) (dr id n s) []=0/\mu (dM id n s) (dr id n s) []=jQ n s/\mP (dr id n s) id=((dM id n s,dr id n s),true)
theorem pg:aY 1 3 1:=⟨by kernel_rfl,by kernel_rfl,by kernel_rfl,by kernel_rfl,by kernel_rfl⟩
theorem ph:aY 1 3 2:=⟨by kernel_rfl,by kernel_rfl,by kernel_rfl,by kernel_rfl,by kernel_rfl⟩
theorem pi:aY 1 3 3:=⟨by kernel_rfl,by kernel_rfl,by kernel_rfl,by kernel_rfl,by kernel_rfl⟩
theorem pj:aY 1 3 4:=⟨by kernel_rfl,by kernel_rfl,by kernel_rfl,by kernel_rfl,by kernel_rfl⟩
theorem pk:aY 1 3 5:=⟨by kernel_rfl,by kernel_rfl,by kernel_rfl,by kernel_rfl,by kernel_rfl⟩
theorem pn:aY 1 3 6:=⟨by kernel_rfl,by kernel_rfl,by kernel_rfl,by kernel_rfl,by kernel_rfl⟩
theorem po:aY 1 3 7:=⟨by kernel_rfl,by kernel_rfl,by kernel_rfl,by kernel_rfl,by kernel_rfl⟩
theorem pp:aY 1 3 8:=⟨by kernel_rfl,by kernel_rfl,by kernel_rfl,by kernel_rfl,by kernel_rfl⟩
theorem pq:aY 1 4 1:=⟨by kernel_rfl,by kernel_rfl,by kernel_rfl,by kernel_rfl,by kernel_rfl⟩
theorem pr:aY 1 4 2:=⟨by kernel_rfl,by kernel_rfl,by kernel_rfl,by kernel_rfl,by kernel_rfl⟩
theorem pt:aY 1 4 3:=⟨by kernel_rfl,by kernel_rfl,by kernel_rfl,by kernel_rfl,by kernel_rfl⟩
theorem pu:aY 1 4 4:=⟨by kernel_rfl,by kernel_rfl,by kernel_rfl,by kernel_rfl,by kernel_rfl⟩
theorem pw:aY 1 4 5:=⟨by kernel_rfl,by kernel_rfl,by kernel_rfl,by kernel_rfl,by kernel_rfl⟩
theorem px:aY 1 4 6:=⟨by kernel_rfl,by kernel_rfl,by kernel_rfl,by kernel_rfl,by kernel_rfl⟩
theorem py:aY 1 4 7:=⟨by kernel_rfl,by kernel_rfl,by kernel_rfl,by kernel_rfl,by kernel_rfl⟩
theorem pz:aY 1 4 8:=⟨by kernel_rfl,by kernel_rfl,by kernel_rfl,by kernel_rfl,by kernel_rfl⟩
theorem pA:aY 1 5 1:=⟨by kernel_rfl,by kernel_rfl,by kernel_rfl,by kernel_rfl,by kernel_rfl⟩
theorem pB:aY 1 5 2:=⟨by kernel_rfl,by kernel_rfl,by kernel_rfl,by kernel_rfl,by kernel_rfl⟩
theorem pC:aY 1 5 3:=⟨by kernel_rfl,by kernel_rfl,by kernel_rfl,by kernel_rfl,by kernel_rfl⟩
theorem pD:aY 1 5 4:=⟨by kernel_rfl,by kernel_rfl,by kernel_rfl,by kernel_rfl,by kernel_rfl⟩
theorem pE:aY 1 5 5:=⟨by kernel_rfl,by kernel_rfl,by kernel_rfl,by kernel_rfl,by kernel_rfl⟩
theorem pF:aY 1 5 6:=⟨by kernel_rfl,by kernel_rfl,by kernel_rfl,by kernel_rfl,by kernel_rfl⟩
theorem pG:aY 1 5 7:=⟨by kernel_rfl,by kernel_rfl,by kernel_rfl,by kernel_rfl,by kernel_rfl⟩
theorem pH:aY 1 5 8:=⟨by kernel_rfl,by kernel_rfl,by kernel_rfl,by kernel_rfl,by kernel_rfl⟩
theorem kp:aY 60000 3 1:=⟨by kernel_rfl,by kernel_rfl,by kernel_rfl,by kernel_rfl,by kernel_rfl⟩
theorem kr:aY 60000 3 2:=⟨by kernel_rfl,by kernel_rfl,by kernel_rfl,by kernel_rfl,by kernel_rfl⟩
theorem kt:aY 60000 3 3:=⟨by kernel_rfl,by kernel_rfl,by kernel_rfl,by kernel_rfl,by kernel_rfl⟩
theorem ku:aY 60000 3 4:=⟨by kernel_rfl,by kernel_rfl,by kernel_rfl,by kernel_rfl,by kernel_rfl⟩
theorem kw:aY 60000 3 5:=⟨by kernel_rfl,by kernel_rfl,by kernel_rfl,by kernel_rfl,by kernel_rfl⟩
theorem ky:aY 60000 3 6:=⟨by kernel_rfl,by kernel_rfl,by kernel_rfl,by kernel_rfl,by kernel_rfl⟩
theorem kz:aY 60000 3 7:=⟨by kernel_rfl,by kernel_rfl,by kernel_rfl,by kernel_rfl,by kernel_rfl⟩
theorem kA:aY 60000 3 8:=⟨by kernel_rfl,by kernel_rfl,by kernel_rfl,by kernel_rfl,by kernel_rfl⟩
theorem kC:aY 60000 4 1:=⟨by kernel_rfl,by kernel_rfl,by kernel_rfl,by kernel_rfl,by kernel_rfl⟩
theorem kD:aY 60000 4 2:=⟨by kernel_rfl,by kernel_rfl,by kernel_rfl,by kernel_rfl,by kernel_rfl⟩
theorem kE:aY 60000 4 3:=⟨by kernel_rfl,by kernel_rfl,by kernel_rfl,by kernel_rfl,by kernel_rfl⟩
theorem kF:aY 60000 4 4:=⟨by kernel_rfl,by kernel_rfl,by kernel_rfl,by kernel_rfl,by kernel_rfl⟩
theorem kH:aY 60000 4 5:=⟨by kernel_rfl,by kernel_rfl,by kernel_rfl,by kernel_rfl,by kernel_rfl⟩
theorem kI:aY 60000 4 6:=⟨by kernel_rfl,by kernel_rfl,by kernel_rfl,by kernel_rfl,by kernel_rfl⟩
theorem kJ:aY 60000 4 7:=⟨by kernel_rfl,by kernel_rfl,by kernel_rfl,by kernel_rfl,by kernel_rfl⟩
theorem kK:aY 60000 4 8:=⟨by kernel_rfl,by kernel_rfl,by kernel_rfl,by kernel_rfl,by kernel_rfl⟩
theorem kN:aY 60000 5 1:=⟨by kernel_rfl,by kernel_rfl,by kernel_rfl,by kernel_rfl,by kernel_rfl⟩
theorem kO:aY 60000 5 2:=⟨by kernel_rfl,by kernel_rfl,by kernel_rfl,by kernel_rfl,by kernel_rfl⟩
theorem kP:aY 60000 5 3:=⟨by kernel_rfl,by kernel_rfl,by kernel_rfl,by kernel_rfl,by kernel_rfl⟩
theorem kQ:aY 60000 5 4:=⟨by kernel_rfl,by kernel_rfl,by kernel_rfl,by kernel_rfl,by kernel_rfl⟩
theorem kR:aY 60000 5 5:=⟨by kernel_rfl,by kernel_rfl,by kernel_rfl,by kernel_rfl,by kernel_rfl⟩
theorem kS:aY 60000 5 6:=⟨by kernel_rfl,by kernel_rfl,by kernel_rfl,by kernel_rfl,by kernel_rfl⟩
theorem kT:aY 60000 5 7:=⟨by kernel_rfl,by kernel_rfl,by kernel_rfl,by kernel_rfl,by kernel_rfl⟩
theorem kU:aY 60000 5 8:=⟨by kernel_rfl,by kernel_rfl,by kernel_rfl,by kernel_rfl,by kernel_rfl⟩
theorem xE {id n s:Int} (hi:id∈[(1:Int),60000,0,60001]) (h:iu id n s=true):aY id n s:=by
 unfold iu at h;simp only [Bool.and_eq_true] at h
 obtain ⟨hg,hid⟩:=h;obtain ⟨g1,g2,g3,g4⟩:=aB.1 hg;obtain ⟨i1,i2⟩:=aG.1 hid;have hn:n=3∨n=4∨n=5:=by omega
 have hs:s=1∨s=2∨s=3∨s=4∨s=5∨s=6∨s=7∨s=8:=by omega
 have hi2:id=1∨id=60000:=by
  simp only [List.mem_cons,List.not_mem_nil,or_false] at hi
  omega
 clear hi hg hid g1 g2 g3 g4 i1 i2;rcases hi2 with rfl|rfl
 . rcases hn with rfl|rfl|rfl
   . rcases hs with rfl|rfl|rfl|rfl|rfl|rfl|rfl|rfl
     . exact pg
     . exact ph
     . exact pi
     . exact pj
     . exact pk
     . exact pn
     . exact po
     exact pp
   . rcases hs with rfl|rfl|rfl|rfl|rfl|rfl|rfl|rfl
     . exact pq
     . exact pr
     . exact pt
     . exact pu
     . exact pw
     . exact px
     . exact py
     exact pz
   rcases hs with rfl|rfl|rfl|rfl|rfl|rfl|rfl|rfl
   . exact pA
   . exact pB
   . exact pC
   . exact pD
   . exact pE
   . exact pF
   . exact pG
   exact pH
 rcases hn with rfl|rfl|rfl
 . rcases hs with rfl|rfl|rfl|rfl|rfl|rfl|rfl|rfl
   . exact kp
   . exact kr
   . exact kt
   . exact ku
   . exact kw
   . exact ky
   . exact kz
   exact kA
 . rcases hs with rfl|rfl|rfl|rfl|rfl|rfl|rfl|rfl
   . exact kC
   . exact kD
   . exact kE
   . exact kF
   . exact kH
   . exact kI
   . exact kJ
   exact kK
 rcases hs with rfl|rfl|rfl|rfl|rfl|rfl|rfl|rfl
 . exact kN
 . exact kO
 . exact kP
 . exact kQ
 . exact kR
 . exact kS
 . exact kT
 exact kU
theorem vP {id n s:Int} (h:iu id n s=false):dr id n s=[]/\bf (dM id n s) (dr id n s) []=false:=by
 have h1:dr id n s=[]:=by unfold dr;rw [if_neg (by simp [h])]
 have h2:dM id n s=⟨0,0,0,0,0,0,0,0,0,false,false⟩:=by unfold dM;rw [if_neg (by simp [h])]
 rw [h1,h2];exact ⟨rfl,by kernel_rfl⟩
theorem vQ {id n s:Int} (h:iu id n s=true):3<=(dr id n s).length:=by
 unfold dr;rw [if_pos h,ek];unfold iu at h;simp only [Bool.and_eq_true] at h
 obtain ⟨g1,g2,g3,g4⟩:=aB.1 h.1;omega
theorem dfill6 (x:aq) (s:Int) (l:List Int) (n j:Nat) (h:j<n):(fB x s l j++List.replicate (n-j) (0:Int)).set j (l.getD (fX x.n x.s s (j:Int)).toNat 0)=fB x s l (j+1)++List.replicate (n-(j+1)) (0:Int):=by
 have e:n-j=(n-(j+1))+1:=by omega
 rw [List.set_append,if_neg (by rw [iC];omega),iC,Nat.sub_self,e,List.replicate_succ,List.set_cons_zero,nI,List.append_assoc];rfl
theorem oS (w:World) (E F G:TypeId) (x:aq) (am ad:Option Addr) (nm cm nd cd:Nat) (ms:List ai) (ds:List (Int×List Int)) (s:Int) (h0:(bI E F).Rd w [.slice am nm cm] ms) (h1:(aW G).Rd w [.slice ad nd cd] ds) (hw:bh ms ds<=2097152):
 Calls Tryz.prog 105 #[.agg #[.int .i64 x.id,.int .i64 x.n,.int .i64 x.s,.slice am nm cm,.int .i64 x.lost,.int .i64 x.xW,.int .i64 x.seq,.int .i64 x.tail,.int .i64 x.gen,.slice ad nd cd,.int .i64 x.xY,.bool x.down,.bool x.xX],.int .i64 s] w fun e w'=>∃a' l' c',e=.returned (.tuple #[.slice a' l' c',.bool (cZ x ms ds s)])/\aD.Own w' w.heap.size w'.heap.size [.slice a' l' c'] (jb x ms ds s)/\Below w.heap.size w w':=by
 obtain ⟨i0,hi,hz0,hz1,hz2⟩:=info_parts Tryz.info3;have hA:=af w (.cells #[.int .i64 x.id,.int .i64 x.n,.int .i64 x.s,.slice am nm cm,.int .i64 x.lost,.int .i64 x.xW,.int .i64 x.seq,.int .i64 x.tail,.int .i64 x.gen,.slice ad nd cd,.int .i64 x.xY,.bool x.down,.bool x.xX] 31);have X:=Box.new w 31 #[.int .i64 x.id,.int .i64 x.n,.int .i64 x.s,.slice am nm cm,.int .i64 x.lost,.int .i64 x.xW,.int .i64 x.seq,.int .i64 x.tail,.int .i64 x.gen,.slice ad nd cd,.int .i64 x.xY,.bool x.down,.bool x.xX];obtain ⟨k0,k1,k2,k3,k4,k5,k6,k7,k8,k9,k10,k11,k12⟩:=X.cells13;have zA:=X.lt;have r0:=h0.below hA;have r1:=h1.below hA;go_enter Tryz.func105,Tryz.ntmps105
 go_wp2_with fail
 generalize w.alloc (.cells #[.int .i64 x.id,.int .i64 x.n,.int .i64 x.s,.slice am nm cm,.int .i64 x.lost,.int .i64 x.xW,.int .i64 x.seq,.int .i64 x.tail,.int .i64 x.gen,.slice ad nd cd,.int .i64 x.xY,.bool x.down,.bool x.xX] 31)=W at hA X zA r0 r1 k0 k1 k2 k3 k4 k5 k6 k7 k8 k9 k10 k11 k12 ⊢;refine (pJ _ E F G x _ _ _ _ _ _ ms ds s r0 r1 hw).mono ?_
 rintro e w1 ⟨a',l',c',rfl,o1,b1⟩;have X1:=X.below b1 zA;have B1:=Below.andThen hA b1;clear k0 k1 k2 k3 k4 k5 k6 k7 k8 k9 k10 k11 k12 X b1 r0 r1;cases hok:cZ x ms ds s
 . have HF:Hid (jb x ms ds s=[]):=by
    unfold Hid;unfold cZ at hok;unfold jb;cases hk:mR x ms ds s
    . rfl
    rw [hk,Bool.true_and] at hok;rw [if_pos rfl];unfold gd;rw [hok];rfl
   have FO:=aa ((aS (bk.lit .i64 3 w1 [] 0 #[] rfl rfl (by unfold maxLen;omega))).widen (lo':=w.heap.size) B1.size (Nat.le_refl _));have FB:=aa (B1.alloc B1.size (.cells #[] 3));clear o1;go_wp2
   refine bodyPost_ret (v:=.tuple #[.slice (some ⟨w1.heap.size,0,none⟩) 0 0,.bool false]) (by simp [results,Tryz.results105,go_sem]) rfl ?_
   exact ⟨_,_,_,by rw [hok],by rw [HF.out];exact FO.out,FB.out⟩
 have hk:mR x ms ds s=true:=by unfold cZ at hok;simp only [Bool.and_eq_true] at hok;exact hok.1
 have hwb:cV x ms s=true:=by unfold cZ at hok;simp only [Bool.and_eq_true] at hok;exact hok.2
 have hin:inB s 0 (x.s-1)=true:=by unfold mR at hk;simp only [Bool.and_eq_true] at hk;exact hk.2.2
 have hg:bL x.n x.s=true:=by unfold mR bf at hk;simp only [Bool.and_eq_true] at hk;exact hk.1.1
 obtain ⟨g1,g2,g3,g4⟩:=aB.1 hg;have hL:fj x ms ds s=dc x ms s:=by unfold fj;rw [if_pos hk];rfl
 have hD:jb x ms ds s=fB x s (dc x ms s) (x.n.toNat-1):=by
  unfold jb;rw [if_pos hk];unfold gd;rw [if_pos (show cV {x with xX:=false} ms s=true from hwb)];rfl
 have hwl:=jN hwb;rw [hL] at o1;generalize dc x ms s=ps at o1 hD hwl;obtain ⟨hr1,hln,hcap,hmax⟩:=aR o1.rd;obtain ⟨m,hm⟩:∃m:Nat,x.n=(m:Int)+1:=⟨x.n.toNat-1,by omega⟩;have hm5:m<=4:=by omega
 have hm2:2<=m:=by omega
 have hl5:l'=m+1:=by omega
 subst hl5;have HD:Hid (jb x ms ds s=fB x s ps m):=by unfold Hid;rw [hD];congr 1;omega
 have HM:=aa hm;have HOK:=aa hok;have HIN:=aa hin;have HG:=aa hg;clear hD hm hwl hok hk hwb hL hin hg;rcases hr1 with hnil|⟨b,off,rfl,hbl,hcs⟩
 . rw [hnil] at hln;simp at hln
 have HCS:=aa hcs;clear hcs;obtain ⟨k0,k1,k2,k3,k4,k5,k6,k7,k8,k9,k10,k11,k12⟩:=X1.cells13;go_wp2_with fail
 refine (cE _ x.n x.s g1 g2).mono ?_
 rintro e w2 ⟨rfl,b2⟩;have X2:=X1.below b2 X1.lt;have B2:=Below.andThen B1 b2;have zb2:=b2.size;have hC2:∀i,i<ps.length->w2.cell? ⟨b,off+i,none⟩=some (.int .i64 (ps.getD i 0)):=fun i h=>(b2.cell (p:=⟨b,off+i,none⟩) hbl).trans (HCS.out i h);have HC2:=aa hC2;have hbl2:b<w2.heap.size:=Nat.lt_of_lt_of_le hbl b2.size;clear k0 k1 k2 k3 k4 k5 k6 k7 k8 k9 k10 k11 k12 X1 b2 B1 hC2 HCS hbl o1;have hb3:i0.bytes*m<=281474976710656:=by rw [hz2];omega
 have hm3:m<=maxLen:=by unfold maxLen;omega
 rw [show x.n-1=(m:Int) from by have:=HM.out;omega];go_wp2_with (at_make;refine wpList_make_full _ rfl _ _ 42 rfl w2.heap.size 3 i0 (.int .i64 0) 1 Tryz.underlying42 hi hz0 hz1 _ _ _ _ m rfl rfl rfl rfl hb3 hm3 (Nat.le_refl _) ?_;intro w3 hown hgrow)
 have hO:bk .i64 3 w3 w2.heap.size (.slice (some ⟨w2.heap.size,0,none⟩) m m) (List.replicate m 0):=by
  rw [ie] at hown;unfold bk;rw [List.length_replicate];exact hown
 have hO1:=hO.own;have hB1:Below w2.heap.size w2 w3:=(Below.refl _ _).grown hgrow (Nat.le_refl _) (by simp);generalize w3.heap.size=hi1 at hO1;clear hown hgrow hO;go_loopw [25] (fun i wr=>∃j:Nat,j<=m/\i=.int .i64 j/\Own .i64 3 wr w2.heap.size hi1 (.slice (some ⟨w2.heap.size,0,none⟩) m m) (fB x s ps j++List.replicate (m-j) 0)/\Below w2.heap.size w2 wr) (fun i _=>m-(intOf i).toNat)
 case atStart=>exact ⟨0,Nat.zero_le _,rfl,by simpa [fB] using hO1,hB1⟩
 clear hO1 hB1;obtain ⟨j,hj,rfl,ho,hb⟩:=hrel;by_cases hlt:j<m
 . have Xr:=X2.below hb X2.lt
   obtain ⟨k0,k1,k2,k3,k4,k5,k6,k7,k8,k9,k10,k11,k12⟩:=Xr.cells13;obtain ⟨d1,d2⟩:=tU (i:=(j:Int)) HG.out HIN.out (by omega) (by have:=HM.out;omega);have hfs:=dfill6 x s ps m j hlt;go_wp2_with fail
   refine (oR _ x.n x.s s (j:Int)).mono ?_
   rintro e w5 ⟨rfl,b5⟩;obtain ⟨d,hd⟩:=Int.eq_ofNat_of_zero_le d1;rw [hd] at d2 hfs ⊢;rw [Int.toNat_natCast] at hfs;have hdn:d<m+1:=by have:=HM.out;omega
   have hcd:=(b5.cell (p:=⟨b,off+d,none⟩) (Nat.lt_of_lt_of_le hbl2 hb.size)).trans ((hb.cell (p:=⟨b,off+d,none⟩) hbl2).trans (HC2.out d (by omega)));have o5:=ho.below b5;have B5:=hb.trans (b5.mono hb.size);obtain ⟨hcy,hfy,hst,hbt⟩:=o5.store j hlt (ps.getD d 0);rw [hfs] at hst;have HST:=aa hst;have HB:Hid (Below w2.heap.size w2 (w5.setCell ⟨w2.heap.size,j,none⟩ (.int .i64 (ps.getD d 0)))):=B5.setCell (Nat.le_refl _) _;generalize ps.getD d 0=y at hcd HST HB;generalize (fB x s ps j++List.replicate (m-j) 0).getD j 0=old at hcy;have i1:(0:Int)<=(d:Int):=by omega
   have i2:(d:Int)<((m+1:Nat):Int):=by omega
   have i3:(0:Int)<=(j:Int):=by omega
   have i4:(j:Int)<(m:Int):=by omega
   clear k0 k1 k2 k3 k4 k5 k6 k7 k8 k9 k10 k11 k12 Xr b5 ho hb hst hbt o5 B5 hfs d1 d2 hd;go_wp2
   go_roundw
   case rel=>exact ⟨j+1,by omega,by go_num,HST.out,HB.out⟩
   case measure=>simp [intOf];omega
 have ej:j=m:=by omega
 subst ej;rw [Nat.sub_self,List.replicate_zero,List.append_nil] at ho;have FO:=aa ((aS ho.1).widen (lo':=w.heap.size) B2.size (Nat.le_refl _));have FB:=aa (B2.trans (hb.mono B2.size));clear ho hb;go_wp2
 refine bodyPost_ret (v:=.tuple #[.slice (some ⟨w2.heap.size,0,none⟩) j j,.bool true]) (by simp [results,Tryz.results105,go_sem]) rfl ?_
 exact ⟨_,_,_,by rw [HOK.out],by rw [HD.out];exact FO.out,FB.out⟩
theorem sH (w:World) (E F G:TypeId) (x:aq) (am ad:Option Addr) (nm cm nd cd:Nat) (ms:List ai) (ds:List (Int×List Int)) (s:Int) (h0:(bI E F).Rd w [.slice am nm cm] ms) (h1:(aW G).Rd w [.slice ad nd cd] ds) (hw:bh ms ds<=2097152) (ha:bf x ms ds=true) (hs:inB s 0 (x.s-1)=true):
 Calls Tryz.prog 78 #[.agg #[.int .i64 x.id,.int .i64 x.n,.int .i64 x.s,.slice am nm cm,.int .i64 x.lost,.int .i64 x.xW,.int .i64 x.seq,.int .i64 x.tail,.int .i64 x.gen,.slice ad nd cd,.int .i64 x.xY,.bool x.down,.bool x.xX],.int .i64 s] w fun e w'=>∃a' l' c',e=.returned (.tuple #[.slice a' l' c',.bool (ok8 x ms ds s)])/\aD.Own w' w.heap.size w'.heap.size [.slice a' l' c'] (fO x ms ds s)/\Below w.heap.size w w':=by
 have hwd:aX ds<=2097152:=by unfold bh at hw;omega
 obtain ⟨hl1,_,_⟩:=ag h1;have hnd:nd<=2097152:=by unfold aX at hwd;omega
 obtain ⟨_,_,_,g4⟩:=aB.1 (kj ha);have hsr:0<=s/\s<=100:=by have:=aG.1 hs;omega
 have HASC:=aa (qE ha);have HE:Hid (at8 ds s=-1->ok8 x ms ds s=cZ x ms ds s/\fO x ms ds s=jb x ms ds s):=fun hat=>by
  unfold ok8 fO cZ jb mR;rw [if_pos hat,if_pos hat,ha,hs];cases x.xX<;>exact ⟨rfl,rfl⟩
 have HI:Hid (∀(k:Nat) (ys:List Int),at8 ds s=(k:Int)->ds[k]?=some (s,ys)->ok8 x ms ds s=true/\fO x ms ds s=ys/\ys.length<=2097152):=fun k ys hat hk=>by
  have hil:ys.length<=aX ds:=cK hk;unfold ok8 fO;rw [if_neg (by omega),if_neg (by omega),hat,Int.toNat_natCast,List.getD_eq_getElem?_getD,hk];exact ⟨rfl,rfl,by show ys.length<=_;omega⟩
 have hA:=af w (.cells #[.int .i64 x.id,.int .i64 x.n,.int .i64 x.s,.slice am nm cm,.int .i64 x.lost,.int .i64 x.xW,.int .i64 x.seq,.int .i64 x.tail,.int .i64 x.gen,.slice ad nd cd,.int .i64 x.xY,.bool x.down,.bool x.xX] 31);have X:=Box.new w 31 #[.int .i64 x.id,.int .i64 x.n,.int .i64 x.s,.slice am nm cm,.int .i64 x.lost,.int .i64 x.xW,.int .i64 x.seq,.int .i64 x.tail,.int .i64 x.gen,.slice ad nd cd,.int .i64 x.xY,.bool x.down,.bool x.xX];have zX:=X.lt;obtain ⟨k0,k1,k2,k3,k4,k5,k6,k7,k8,k9,k10,k11,k12⟩:=X.cells13;have r0:=h0.below hA;have r1:=h1.below hA;go_enter Tryz.func78,Tryz.ntmps78
 go_wp2_with fail
 generalize w.alloc (.cells #[.int .i64 x.id,.int .i64 x.n,.int .i64 x.s,.slice am nm cm,.int .i64 x.lost,.int .i64 x.xW,.int .i64 x.seq,.int .i64 x.tail,.int .i64 x.gen,.slice ad nd cd,.int .i64 x.xY,.bool x.down,.bool x.xX] 31)=W at hA X zX r0 r1 k0 k1 k2 k3 k4 k5 k6 k7 k8 k9 k10 k11 k12 ⊢;refine (of_any _ G _ _ _ ds s r1 hnd HASC.out hsr _ (xy r1)).mono ?_
 rintro e w1 ⟨hcase,b1⟩;have z1:=b1.size;have B1:=Below.andThen hA b1;rcases hcase with ⟨hat,rfl⟩|⟨k,ys,a1,c1,hat,hk,rfl,hq⟩
 . have HV:=aa (HE.out hat)
   have X1:=(X.below b1 zX).alloc (.cells #[.int .i64 0,.slice none 0 0] 93);have BN:=af w1 (.cells #[.int .i64 0,.slice none 0 0] 93);have B2:=Below.andThen B1 BN;have r0':=(r0.below b1).below BN;have r1':=(r1.below b1).below BN;clear k0 k1 k2 k3 k4 k5 k6 k7 k8 k9 k10 k11 k12 X r0 r1 b1 hA hat HE HI B1 BN;obtain ⟨k0,k1,k2,k3,k4,k5,k6,k7,k8,k9,k10,k11,k12⟩:=X1.cells13;clear X1;go_wp2_with fail
   generalize w1.alloc (.cells #[.int .i64 0,.slice none 0 0] 93)=w2 at B2 r0' r1' k0 k1 k2 k3 k4 k5 k6 k7 k8 k9 k10 k11 k12 ⊢;refine (oS _ E F G x _ _ _ _ _ _ ms ds s r0' r1' hw).mono ?_
   rintro e w3 ⟨a3,l3,c3,rfl,o3,b3⟩;have HB:=aa (Below.andThen B2 b3);have HO:=aa (o3.widen (lo':=w.heap.size) B2.size (Nat.le_refl _));clear k0 k1 k2 k3 k4 k5 k6 k7 k8 k9 k10 k11 k12 r0' r1' b3 o3 B2;go_wp2
   go_ret2
   rw [HV.out.1,HV.out.2];exact ⟨a3,l3,c3,rfl,HO.out,HB.out⟩
 have HV:=aa (HI.out k ys hat hk);have BN:=af w1 (.cells #[.int .i64 s,.slice a1 ys.length c1] 93);have N1:=Box.new w1 93 #[.int .i64 s,.slice a1 ys.length c1];have n1:=N1.cell 1;have B2:=Below.andThen B1 BN;have q2:=(hq.below b1).below BN;clear k0 k1 k2 k3 k4 k5 k6 k7 k8 k9 k10 k11 k12 X r0 r1 b1 hA hat hk HE HI B1 BN N1 hq;go_wp2_with fail
 generalize w1.alloc (.cells #[.int .i64 s,.slice a1 ys.length c1] 93)=w2 at B2 q2 n1 ⊢;refine (bP _ _ _ _ ys q2 HV.out.2.2).mono ?_
 rintro e w3 ⟨a3,c3,rfl,o3,b3⟩;have HB:=aa (Below.andThen B2 b3);have HO:=aa (o3.widen (lo':=w.heap.size) B2.size (Nat.le_refl _));clear q2 n1 b3 o3 B2;go_wp2
 go_ret2
 rw [HV.out.1,HV.out.2.1];exact ⟨a3,ys.length,c3,rfl,HO.out,HB.out⟩
end Go.Proofs.YtgjomldcnjjpaaaGreat
