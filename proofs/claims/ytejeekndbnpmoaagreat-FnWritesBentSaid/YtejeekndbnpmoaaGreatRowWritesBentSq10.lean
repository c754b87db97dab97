/-
 The walk of the specification's l7Sync: all disks flushed. Conditions: the power goes within 1000 operations, or stays; every disk is right.
-/
import Derived.Test.YtejeekndbnpmoaaGreatRowWritesBentSq2
import Derived.Test.YtejeekndbnpmoaaGreatRowWritesBentSq9
import Derived.Test.YtejeekndbnpmoaaGreatRowWritesBentSq7
import Derived.Test.YtejeekndbnpmoaaGreatRowWritesBentSq3
import Derived.Test.YtejeekndbnpmoaaGreatRowWritesBentSq4
import Derived.Test.YtejeekndbnpmoaaGreatRowWritesBentSq8

set_option maxRecDepth 100000
set_option maxHeartbeats 8000000
set_option linter.unusedSimpArgs false

namespace Go.Proofs.YtejeekndbnpmoaaGreat
open Go.RowKit

def gZ:ai:=([],[],false,[])
def opB (x:al):Bool:=!x.down&&!decide (x.vI=0)
def opX (x:al):al:=if x.down=true then x else if x.vI=0 then {x with down:=true,vI:=-1} else if 0<x.vI then {x with vI:=x.vI-1} else x
def wrM (d:ai) (n:Int) (s:List Int):ai:=(d.1,dP d.1 d.2.1 d.2.2.1 d.2.2.2 n s,d.2.2.1,dQ d.1 d.2.1 d.2.2.1 d.2.2.2 n s)
def flM (d:ai):ai:=(gU d.1 d.2.1 d.2.2.1 d.2.2.2,iK d.1 d.2.1 d.2.2.1 d.2.2.2,d.2.2.1,d.2.2.2)
def doS (q:al×List ai) (i:Nat) (f:ai->ai):al×List ai:=
 if (q.2.getD i gZ).2.2.1=true then q else if opB q.1=true then (opX q.1,q.2.set i (f (q.2.getD i gZ))) else (opX q.1,q.2)
def fA (q:al×List ai) (i:Nat) (n:Int) (s:List Int):al×List ai:=doS q i fun d=>wrM d n s
def aS (q:al×List ai) (j:Nat):al×List ai:=(List.range j).foldl (fun q i=>doS q i flM) q
def gx (x:al) (i:Nat):Sup:=⟨x.id,x.gen,(i:Int),x.n,x.s,x.tail,x.lost,x.vG⟩
def dl (q:al×List ai) (j:Nat):al×List ai:=(List.range j).foldl (fun q i=>fA q i (q.1.gen % 2) (dN (gx q.1 i))) q
def cK (q:al×List ai):al×List ai:=aS (dl ({q.1 with gen:=q.1.gen+1},q.2) q.2.length) q.2.length
def bD (q:al×List ai):al×List ai:=if (aS q q.2.length).1.down=true then aS q q.2.length else cK ({(aS q q.2.length).1 with tail:=(aS q q.2.length).1.seq},(aS q q.2.length).2)
def bM (ms:List ai):Prop:=∀(i:Nat) (d:ai),ms[i]?=some d->bp d.1 d.2.1 d.2.2.2=true
def dw (x y:al):Prop:=y.id=x.id/\y.n=x.n/\y.s=x.s/\y.lost=x.lost/\y.vG=x.vG/\y.seq=x.seq/\y.tail=x.tail/\y.gen=x.gen/\y.vH=x.vH/\y.vI<=1000/\(-1<=x.vI->-1<=y.vI)
theorem dw.refl {x:al} (h:x.vI<=1000):dw x x:=⟨rfl,rfl,rfl,rfl,rfl,rfl,rfl,rfl,rfl,h,fun h=>h⟩
theorem dw.trans {x y z:al} (h:dw x y) (k:dw y z):dw x z:=by
 obtain ⟨a1,a2,a3,a4,a5,a6,a7,a8,a9,_,b⟩:=h;obtain ⟨c1,c2,c3,c4,c5,c6,c7,c8,c9,c10,d⟩:=k;exact ⟨c1.trans a1,c2.trans a2,c3.trans a3,c4.trans a4,c5.trans a5,c6.trans a6,c7.trans a7,c8.trans a8,c9.trans a9,c10,fun h=>d (b h)⟩
theorem tR {x:al} (h:x.vI<=1000):dw x (opX x):=by
 unfold opX;split
 . exact dw.refl h
 split
 . exact ⟨rfl,rfl,rfl,rfl,rfl,rfl,rfl,rfl,rfl,by dsimp only;omega,fun _=>by dsimp only;omega⟩
 split
 . exact ⟨rfl,rfl,rfl,rfl,rfl,rfl,rfl,rfl,rfl,by dsimp only;omega,fun _=>by dsimp only;omega⟩
 exact dw.refl h
theorem eE {ms:List ai} {i:Nat} {d:ai} (h:ms[i]?=some d):ms.getD i gZ=d:=by rw [List.getD_eq_getElem?_getD,h];rfl
theorem lS {q:al×List ai} {i:Nat} {d:ai} {f:ai->ai} (h:q.2[i]?=some d) (hf:d.2.2.1=true):doS q i f=q:=by unfold doS;rw [eE h,if_pos hf]
theorem qR {q:al×List ai} {i:Nat} {d:ai} {f:ai->ai} (h:q.2[i]?=some d) (hf:d.2.2.1=false) (ho:opB q.1=false):doS q i f=(opX q.1,q.2):=by unfold doS;rw [eE h,if_neg (by simp [hf]),if_neg (by simp [ho])]
theorem oU {q:al×List ai} {i:Nat} {d:ai} {f:ai->ai} (h:q.2[i]?=some d) (hf:d.2.2.1=false) (ho:opB q.1=true):doS q i f=(opX q.1,q.2.set i (f d)):=by unfold doS;rw [eE h,if_neg (by simp [hf]),if_pos ho]
theorem ji (q:al×List ai) (i:Nat) (f:ai->ai):(doS q i f).2.length=q.2.length:=by
 unfold doS;split
 . rfl
 split
 . exact List.length_set
 rfl
theorem gc {q:al×List ai} (i:Nat) (f:ai->ai) (h:q.1.vI<=1000):dw q.1 (doS q i f).1:=by
 unfold doS;split
 . exact dw.refl h
 split<;>exact tR h
theorem bM.set {ms:List ai} {i:Nat} {d:ai} (h:bM ms) (hd:bp d.1 d.2.1 d.2.2.2=true):bM (ms.set i d):=by
 intro k e he;by_cases hk:k=i
 . subst hk
   by_cases hl:k<ms.length
   . rw [List.getElem?_set_self hl] at he
     simp at he
     subst he;exact hd
   rw [List.getElem?_eq_none (by rw [List.length_set];omega)] at he;cases he
 rw [List.getElem?_set_ne (fun e=>hk e.symm)] at he;exact h k e he
theorem oV {q:al×List ai} {i:Nat} {f:ai->ai} (h:bM q.2) (hf:∀d:ai,bp d.1 d.2.1 d.2.2.2=true->bp (f d).1 (f d).2.1 (f d).2.2.2=true):bM (doS q i f).2:=by
 unfold doS;split
 . exact h
 split
 . cases hd:q.2[i]? with
   | none=>
    rw [List.set_eq_of_length_le (by rw [List.getElem?_eq_none_iff] at hd;exact hd)];exact h
   | some d=>rw [eE hd];exact h.set (hf d (h i d hd))
 exact h
theorem oW (n:Int) (s:List Int) (d:ai) (h:bp d.1 d.2.1 d.2.2.2=true):bp (wrM d n s).1 (wrM d n s).2.1 (wrM d n s).2.2.2=true:=by
 unfold wrM dP dQ;dsimp only
 by_cases hw:cV d.1 d.2.1 d.2.2.1 d.2.2.2 n s=true
 . rw [if_pos hw,if_pos hw]
   exact lP hw
 rw [if_neg hw,if_neg hw];exact h
theorem qS (d:ai) (h:bp d.1 d.2.1 d.2.2.2=true):bp (flM d).1 (flM d).2.1 (flM d).2.2.2=true:=by
 unfold flM gU iK;dsimp only
 by_cases hw:(bp d.1 d.2.1 d.2.2.2&&!d.2.2.1)=true
 . rw [if_pos hw,if_pos hw]
   exact lO h d.2.1 (fun _ h=>h)
 rw [if_neg hw,if_neg hw];exact h
theorem oX {q:al×List ai} {i:Nat} {n:Int} {s:List Int} (h:bM q.2):bM (fA q i n s).2:=oV h (oW n s)
theorem io (q:al×List ai) (j:Nat):aS q (j+1)=doS (aS q j) j flM:=by unfold aS;rw [List.range_succ,List.foldl_append];rfl
theorem dm {q:al×List ai} (h:bM q.2) (hf:q.1.vI<=1000):∀j,bM (aS q j).2/\dw q.1 (aS q j).1/\(aS q j).2.length=q.2.length
 | 0=>⟨h,dw.refl hf,rfl⟩
 | j+1=>by
  obtain ⟨h1,h2,h3⟩:=dm h hf j;rw [io];exact ⟨oV h1 qS,h2.trans (gc _ _ h2.2.2.2.2.2.2.2.2.2.1),by rw [ji];exact h3⟩
theorem ip (q:al×List ai) (j:Nat):dl q (j+1)=fA (dl q j) j ((dl q j).1.gen % 2) (dN (gx (dl q j).1 j)):=by unfold dl;rw [List.range_succ,List.foldl_append];rfl
theorem ew {q:al×List ai} (h:bM q.2) (hf:q.1.vI<=1000):∀j,bM (dl q j).2/\dw q.1 (dl q j).1/\(dl q j).2.length=q.2.length
 | 0=>⟨h,dw.refl hf,rfl⟩
 | j+1=>by
  obtain ⟨h1,h2,h3⟩:=ew h hf j;rw [ip];exact ⟨oX h1,h2.trans (gc _ _ h2.2.2.2.2.2.2.2.2.2.1),by unfold fA;rw [ji];exact h3⟩
theorem tS {n:Int} {bs:List Int} (h:ik n bs=true):∀i:Nat,i<bs.length->(i:Int)<=bs.getD i 0
 | 0,hi=>by
  unfold ik at h;have:=(List.all_eq_true.1 h) 0 (List.mem_range.2 hi);unfold dA inB at this;simp at this
  have e:bs.getD 0 0=bs[0]?.getD 0:=List.getD_eq_getElem?_getD ..;rw [e];omega
 | i+1,hi=>by
  have h1:=tS h i (by omega);unfold ik at h;have h2:=(List.all_eq_true.1 h) (i+1) (List.mem_range.2 hi);unfold dA at h2;simp only [Bool.and_eq_true,Bool.or_eq_true,decide_eq_true_eq] at h2
  rw [Nat.add_sub_cancel] at h2;omega
theorem vl {n:Int} {bs:List Int} (h:ik n bs=true):bs=[]∨(bs.length:Int)<=n:=by
 by_cases h0:bs.length=0
 . exact .inl (List.length_eq_zero_iff.1 h0)
 right
 have h1:=tS h (bs.length-1) (by omega);unfold ik at h;have h2:=(List.all_eq_true.1 h) (bs.length-1) (List.mem_range.2 (by omega));unfold dA at h2;simp only [Bool.and_eq_true] at h2
 have h3:=aI.1 h2.1;omega
theorem du {ss:List (List Int)} {cs:List (Int×List Int)} {bs:List Int} (h:bp ss cs bs=true) (f:Bool):aQ (ss,cs,f,bs)<=2000:=by
 have h1:=dF (ss.map List.length) 12 (fun x hx=>by
  obtain ⟨y,hy,rfl⟩:=List.mem_map.1 hx;exact (gT h).1 y hy)
 have h2:=dF (cs.map fun x=>x.2.length) 12 (fun x hx=>by
  obtain ⟨y,hy,rfl⟩:=List.mem_map.1 hx;exact (gT h).2 y hy)
 have h3:=jM h;have h5:=h;unfold bp at h5;simp only [Bool.and_eq_true,decide_eq_true_eq] at h5
 have h4:cs.length<=60:=h5.2.2.2.2;have h6:bs.length<=20:=by
  rcases vl h5.2.2.1 with h7|h7
  . rw [h7];simp
  omega
 rw [List.length_map] at h1 h2;unfold aQ cP bh;simp only
 omega
abbrev DOp:=Nat×Option (Option (Int×List Int))
def np (d:ai) (u:Sup):ai:=(d.1,pL d.1 d.2.1 d.2.2.1 d.2.2.2 u,d.2.2.1,pM d.1 d.2.1 d.2.2.1 d.2.2.2 u)
def opF (o:DOp) (x:al):ai->ai:=
 match o.2 with
 | none=>flM
 | some none=>fun d=>np d (gx x o.1)
 | some (some p)=>fun d=>wrM d p.1 p.2
def dx (q:al×List ai) (ops:List DOp):al×List ai:=ops.foldl (fun q o=>doS q o.1 (opF o q.1)) q
theorem tT {x:al} (h:x.down=true):opX x=x:=by unfold opX;rw [if_pos h]
theorem tU {x:al} (h:x.down=true):opB x=false:=by unfold opB;simp [h]
theorem opX_no {x:al} (h:opB x=false):(opX x).down=true:=by
 unfold opB at h;unfold opX;by_cases hd:x.down=true
 . rw [if_pos hd];exact hd
 rw [if_neg hd];simp at h
 rw [if_pos (h (by simpa using hd))]
theorem vn {x:al} (h:opB x=true):(opX x).down=false:=by
 unfold opB at h;simp at h
 unfold opX;rw [if_neg (by simp [h.1]),if_neg h.2];split
 . exact h.1
 exact h.1
theorem pN {q:al×List ai} (i:Nat) (f:ai->ai) (h:q.1.down=true):doS q i f=q:=by
 unfold doS;rw [tU h,tT h];split
 . rfl
 rfl
theorem nX {q:al×List ai} (h:q.1.down=true):∀ops:List DOp,dx q ops=q
 | []=>rfl
 | o :: ops=>by
  unfold dx;rw [List.foldl_cons,pN _ _ h];exact nX h ops
theorem jN (q:al×List ai) (a b:List DOp):dx q (a++b)=dx (dx q a) b:=by unfold dx;rw [List.foldl_append]
theorem tV (q:al×List ai) (o:DOp):dx q [o]=doS q o.1 (opF o q.1):=rfl
theorem sR {q:al×List ai} {ops:List DOp} {j:Nat} {o:DOp} (h:ops[j]?=some o):dx q (ops.take (j+1))=doS (dx q (ops.take j)) o.1 (opF o (dx q (ops.take j)).1):=by
 rw [List.take_add_one,h,jN];rfl
theorem tW {q:al×List ai} {ops:List DOp} {j:Nat} (h:(dx q (ops.take j)).1.down=true):dx q ops=dx q (ops.take j):=by
 have:=jN q (ops.take j) (ops.drop j);rw [List.take_append_drop,nX h] at this;exact this
theorem vo (u:Sup) (d:ai) (h:bp d.1 d.2.1 d.2.2.2=true):bp (np d u).1 (np d u).2.1 (np d u).2.2.2=true:=by
 unfold np pL pM;dsimp only
 by_cases hu:eA u=true
 . rw [if_pos hu,if_pos hu]
   exact oW (u.gen % 2) (dN u) d h
 rw [if_neg hu,if_neg hu];exact h
theorem tX {u:Sup} (h:eA u=true) (d:ai):np d u=wrM d (u.gen % 2) (dN u):=by
 unfold np pL pM wrM;rw [if_pos h,if_pos h]
theorem opF_ok (o:DOp) (x:al) (d:ai) (h:bp d.1 d.2.1 d.2.2.2=true):bp (opF o x d).1 (opF o x d).2.1 (opF o x d).2.2.2=true:=by
 obtain ⟨i,k⟩:=o;rcases k with _|_|⟨n,s⟩
 . exact qS d h
 . exact vo _ d h
 exact oW n s d h
theorem tY (o:DOp) (x:al) (d:ai):(opF o x d).2.2.1=d.2.2.1:=by
 obtain ⟨i,k⟩:=o;rcases k with _|_|⟨n,s⟩<;>rfl
theorem qT {q:al×List ai} (h:bM q.2) (hf:q.1.vI<=1000):∀ops:List DOp,bM (dx q ops).2/\dw q.1 (dx q ops).1/\(dx q ops).2.length=q.2.length:=by
 intro ops;induction ops generalizing q with
 | nil=>exact ⟨h,dw.refl hf,rfl⟩
 | cons o ops ih=>
  have h1:=gc (q:=q) o.1 (opF o q.1) hf;obtain ⟨a,b,c⟩:=ih (q:=doS q o.1 (opF o q.1)) (oV h (opF_ok o q.1)) h1.2.2.2.2.2.2.2.2.2.1;exact ⟨a,h1.trans b,c.trans (ji _ _ _)⟩
theorem vp (o:DOp) (x:al):opF o (opX x)=opF o x:=by
 obtain ⟨i,k⟩:=o;rcases k with _|_|⟨n,s⟩
 . rfl
 . have e:gx (opX x) i=gx x i:=by
    unfold opX;split
    . rfl
    split
    . rfl
    split<;>rfl
   show (fun d=>np d (gx (opX x) i))=fun d=>np d (gx x i)
   rw [e]
 rfl
def cN (ms:List ai) (k:Nat):Bool:=(ms.getD k gZ).2.2.1
theorem tZ {ms:List ai} {i:Nat} {d:ai} (h:d.2.2.1=cN ms i) (k:Nat):cN (ms.set i d) k=cN ms k:=by
 unfold cN;by_cases hk:k=i
 . subst hk
   by_cases hl:k<ms.length
   . rw [List.getD_eq_getElem?_getD,List.getElem?_set_self hl]
     exact h
   rw [List.set_eq_of_length_le (by omega)]
 rw [List.getD_eq_getElem?_getD,List.getD_eq_getElem?_getD,List.getElem?_set_ne (fun e=>hk e.symm)]
theorem ua (q:al×List ai) (i:Nat) {f:ai->ai} (hf:∀d,(f d).2.2.1=d.2.2.1) (k:Nat):cN (doS q i f).2 k=cN q.2 k:=by
 unfold doS;split
 . rfl
 split
 . exact tZ (hf _) k
 rfl
theorem ky (q:al×List ai) (ops:List DOp) (k:Nat):cN (dx q ops).2 k=cN q.2 k:=by
 induction ops generalizing q with
 | nil=>rfl
 | cons o ops ih=>exact (ih (doS q o.1 (opF o q.1))).trans (ua q o.1 (tY o q.1) k)
def dh (K:Nat->DOp) (ms:List ai) (j:Nat):List DOp:=((List.range j).filter fun i=>!cN ms i).map K
theorem nY (K:Nat->DOp) (ms:List ai) (j:Nat):dh K ms (j+1)=dh K ms j++(if cN ms j=true then [] else [K j]):=by
 unfold dh;rw [List.range_succ,List.filter_append,List.map_append];cases h:cN ms j<;>simp [h]
theorem ub (K:Nat->DOp) (ms:List ai) (j:Nat):(dh K ms j).length<=j:=by
 unfold dh;rw [List.length_map];exact Nat.le_trans (List.length_filter_le _ _) (by rw [List.length_range];exact Nat.le_refl _)
theorem lT {K:Nat->DOp} {ms:List ai} {j:Nat} {o:DOp} (h:o∈dh K ms j):∃i,i<j/\cN ms i=false/\o=K i:=by
 unfold dh at h;obtain ⟨i,hi,rfl⟩:=List.mem_map.1 h;obtain ⟨h1,h2⟩:=List.mem_filter.1 hi;exact ⟨i,List.mem_range.1 h1,by simpa using h2,rfl⟩
theorem jO {K:Nat->DOp} (hK:∀i,(K i).1=i) (q:al×List ai):∀j,dx q (dh K q.2 j)=(List.range j).foldl (fun q i=>doS q i (opF (K i) q.1)) q
 | 0=>rfl
 | j+1=>by
  rw [nY,jN,List.range_succ,List.foldl_append,←jO hK q j];cases h:cN q.2 j
  . rw [if_neg (by simp),tV,hK]
    rfl
  rw [if_pos rfl];have h2:cN (dx q (dh K q.2 j)).2 j=true:=by rw [ky];exact h
  show dx q (dh K q.2 j)=doS (dx q (dh K q.2 j)) j _
  unfold cN at h2;unfold doS;rw [if_pos h2]
def eQ (i:Nat):DOp:=(i,none)
def kz (i:Nat):DOp:=(i,some none)
def wrK (n:Int) (s:List Int) (i:Nat):DOp:=(i,some (some (n,s)))
theorem uc (q:al×List ai) (j:Nat):dx q (dh eQ q.2 j)=aS q j:=jO (fun _=>rfl) q j
theorem pO {q:al×List ai} (h:bM q.2) (hf:q.1.vI<=1000) (hu:∀i:Nat,i<q.2.length->eA (gx q.1 i)=true):∀j,j<=q.2.length->dx q (dh kz q.2 j)=dl q j
 | 0,_=>rfl
 | j+1,hj=>by
  have ih:=pO h hf hu j (by omega);have hs:=(ew h hf j).2.1;rw [jO (fun _=>rfl)] at ih ⊢;rw [List.range_succ,List.foldl_append,ih,ip];have e:gx (dl q j).1 j=gx q.1 j:=by
   obtain ⟨a1,a2,a3,a4,a5,a6,a7,a8,a9,_⟩:=hs;unfold gx;rw [a1,a2,a3,a4,a5,a7,a8]
  have hu2:eA (gx (dl q j).1 j)=true:=by rw [e];exact hu j (by omega)
  show doS (dl q j) j (fun d=>np d (gx (dl q j).1 j))=fA _ _ _ _
  unfold fA;congr 1
  funext d
  exact tX hu2 d
def eJ (w:World) (lo hi:Nat) (bm bd:Option Addr) (nm cm nd cd:Nat) (ms:List ai) (ds:List (Int×List Int)):Prop:=
 ∃(fm fd:List Nat),(bt 171 101).Mine w [.slice bm nm cm] ms fm/\(aU 90).Mine w [.slice bd nd cd] ds fd/\(∀b∈fm,b∉fd)/\(∀b∈fm,lo<=b/\b<hi)/\∀b∈fd,lo<=b/\b<hi
theorem eJ.below {w w':World} {lo hi:Nat} {bm bd:Option Addr} {nm cm nd cd:Nat} {ms:List ai} {ds:List (Int×List Int)} (h:eJ w lo hi bm bd nm cm nd cd ms ds) (hb:Below w.heap.size w w'):eJ w' lo hi bm bd nm cm nd cd ms ds:=by
 obtain ⟨fm,fd,h1,h2,h3⟩:=h;exact ⟨fm,fd,h1.below hb,h2.below hb,h3⟩
theorem eJ.same {w w':World} {lo hi:Nat} {bm bd:Option Addr} {nm cm nd cd:Nat} {ms:List ai} {ds:List (Int×List Int)} (h:eJ w lo hi bm bd nm cm nd cd ms ds) (hs:aN w w'):eJ w' lo hi bm bd nm cm nd cd ms ds:=h.below (hs.below _)
theorem eJ.but {w w':World} {lo hi l u:Nat} {bm bd:Option Addr} {nm cm nd cd:Nat} {ms:List ai} {ds:List (Int×List Int)} (h:eJ w lo hi bm bd nm cm nd cd ms ds) (hb:But l u w w') (hd:hi<=l∨u<=lo):eJ w' lo hi bm bd nm cm nd cd ms ds:=by
 obtain ⟨fm,fd,h1,h2,h3,h4,h5⟩:=h;exact ⟨fm,fd,h1.but hb (fun b hb'=>by have:=h4 b hb';omega),h2.but hb (fun b hb'=>by have:=h5 b hb';omega),h3,h4,h5⟩
theorem eJ.rdm {w:World} {lo hi:Nat} {bm bd:Option Addr} {nm cm nd cd:Nat} {ms:List ai} {ds:List (Int×List Int)} (h:eJ w lo hi bm bd nm cm nd cd ms ds):(bt 171 101).Rd w [.slice bm nm cm] ms:=by
 obtain ⟨fm,fd,h1,_⟩:=h;exact h1.rd
theorem eJ.rdd {w:World} {lo hi:Nat} {bm bd:Option Addr} {nm cm nd cd:Nat} {ms:List ai} {ds:List (Int×List Int)} (h:eJ w lo hi bm bd nm cm nd cd ms ds):(aU 90).Rd w [.slice bd nd cd] ds:=by
 obtain ⟨fm,fd,_,h2,_⟩:=h;exact h2.rd
theorem eJ.widen {w:World} {lo hi lo' hi':Nat} {bm bd:Option Addr} {nm cm nd cd:Nat} {ms:List ai} {ds:List (Int×List Int)} (h:eJ w lo hi bm bd nm cm nd cd ms ds) (h1:lo'<=lo) (h2:hi<=hi'):eJ w lo' hi' bm bd nm cm nd cd ms ds:=by
 obtain ⟨fm,fd,a1,a2,a3,a4,a5⟩:=h;exact ⟨fm,fd,a1,a2,a3,fun b hb=>by have:=a4 b hb;omega,fun b hb=>by have:=a5 b hb;omega⟩
def iq (w w':World) (e:Ending) (q:al×List ai) (ds:List (Int×List Int)):Prop:=
 ∃(bm bd:Option Addr) (cm cd:Nat),e=.returned (.agg (aC q.1 (.slice bm q.2.length cm) (.slice bd ds.length cd)))/\eJ w' w.heap.size w'.heap.size bm bd q.2.length cm ds.length cd q.2 ds/\Below w.heap.size w w'
theorem aJ.belowN {B N:Nat} {f1 f2:List Nat} {w1 w2:World} (h:aJ B f1 w1 f2 w2) (hB:N<=B) (hf:∀b∈f1,N<=b) (hN:N<=w1.heap.size):Below N w1 w2:=
 ⟨h.1.os,h.1.tape,h.1.output,h.1.size,fun k hk=>h.1.block k (by omega) (fun hm=>by
  rcases List.mem_cons.1 hm with e|hm
  . omega
  have:=hf k hm;omega)⟩
theorem cH {x:al} {ms:List ai} {ds:List (Int×List Int)} (h:aZ x ms ds=true):x.vI<=1000/\bM ms/\0<=x.gen/\x.gen<=60000:=by
 unfold aZ cJ dB at h;simp only [Bool.and_eq_true,aI] at h
 obtain ⟨_,_,⟨hm,_⟩,_,_,_,_,_,hg,hf⟩:=h;refine ⟨hf.2,fun i d hd=>?_,hg.1,hg.2⟩
 have:=dy.1 hm i d hd;unfold di at this;simp only [Bool.and_eq_true] at this
 exact this.1
theorem cn {w w4:World} {R lo:Nat} {y:al} {ns:List ai} {ds:List (Int×List Int)} {vm vd:Option Addr} {cvm cvd:Nat} {fm fd:List Nat} {e:Ending} {T:TypeId} {cs:Array Value} (hb:Below w.heap.size w w4) (_:Box w4 R T cs) (he:e=.returned (.agg (aC y (.slice vm ns.length cvm) (.slice vd ds.length cvd)))) (hm:(bt 171 101).Mine w4 [.slice vm ns.length cvm] ns fm) (hd:(aU 90).Mine w4 [.slice vd ds.length cvd] ds fd) (hr:∀b∈fm,b∉fd) (rm:∀b∈fm,lo<=b) (rd:∀b∈fd,lo<=b) (h1:w.heap.size<=R) (h2:R<lo):
 iq w (bK w4 R [(0,.int .i64 y.id),(1,.int .i64 y.n),(2,.int .i64 y.s),(3,.slice vm ns.length cvm),(4,.int .i64 y.lost),(5,.int .i64 y.vG),(6,.int .i64 y.seq),(7,.int .i64 y.tail),(8,.int .i64 y.gen),(9,.slice vd ds.length cvd),(10,.int .i64 y.vI),(11,.bool y.down),(12,.bool y.vH)]) e (y,ns) ds:=by
 have hbt:=bN R [(0,.int .i64 y.id),(1,.int .i64 y.n),(2,.int .i64 y.s),(3,.slice vm ns.length cvm),(4,.int .i64 y.lost),(5,.int .i64 y.vG),(6,.int .i64 y.seq),(7,.int .i64 y.tail),(8,.int .i64 y.gen),(9,.slice vd ds.length cvd),(10,.int .i64 y.vI),(11,.bool y.down),(12,.bool y.vH)] w4;have hz:=hbt.size;have hlm:=hm.lt;have hld:=hd.lt;refine ⟨vm,vd,cvm,cvd,he,⟨fm,fd,hm.but hbt (fun b hb=>by have:=rm b hb;omega),hd.but hbt (fun b hb=>by have:=rd b hb;omega),hr,fun b hb=>?_,fun b hb=>?_⟩,Below.andBut hb hbt h1⟩
 . have h3:=rm b hb
   have h4:=hlm b hb;omega
 have h3:=rd b hb;have h4:=hld b hb;omega
def iR (q:al×List ai):al×List ai:=aS q q.2.length
def hJ (x:al) (ms:List ai) (ds:List (Int×List Int)):al×List ai:=if (aZ x ms ds&&!x.down)=true then iR (x,ms) else (x,ms)
def gd (x:al) (ms:List ai) (ds:List (Int×List Int)):al×List ai:=if (aZ x ms ds&&!x.down&&decide (x.gen<60000))=true then cK (x,ms) else (x,ms)
def eo (x:al) (ms:List ai) (ds:List (Int×List Int)):al×List ai:=if (aZ x ms ds&&!x.down&&decide (x.gen<60000))=true then bD (x,ms) else (x,ms)
theorem eg {x:al} {ms:List ai} {ds:List (Int×List Int)} (h:aZ x ms ds=true):3<=x.n/\x.n<=5/\(ms.length:Int)=x.n:=by
 unfold aZ cJ at h;simp only [Bool.and_eq_true,aB,decide_eq_true_eq] at h
 exact ⟨h.1.1,h.1.2.1,h.2.2.1.2⟩
theorem jP {ns:List ai} (h:bM ns) (hl:ns.length<=5):aV ns<=10005:=by
 have h1:=dF (ns.map aQ) 2000 (fun y hy=>by
  obtain ⟨d,hd,rfl⟩:=List.mem_map.1 hy;obtain ⟨i,hi⟩:=List.mem_iff_getElem?.1 hd;obtain ⟨ss,cs,f,bs⟩:=d;exact du (h i _ hi) f)
 rw [List.length_map] at h1;unfold aV;omega
theorem jj {x:al} {ms:List ai} {ds:List (Int×List Int)} {q:al×List ai} (h:aZ x ms ds=true) (hk:bM q.2) (hl:q.2.length=ms.length) (hw:aM ms ds<=1048576):aM q.2 ds<=2097152:=by
 have h1:=eg h;have h2:=jP hk (by omega);unfold aM at hw ⊢;omega
theorem kU {q:al×List ai} (h:bM q.2) (hf:q.1.vI<=1000):bM (cK q).2/\(cK q).2.length=q.2.length:=by
 obtain ⟨a,b,c⟩:=ew (q:=({q.1 with gen:=q.1.gen+1},q.2)) h hf q.2.length;obtain ⟨a2,_,c2⟩:=dm (q:=dl ({q.1 with gen:=q.1.gen+1},q.2) q.2.length) a b.2.2.2.2.2.2.2.2.2.1 q.2.length;exact ⟨a2,c2.trans c⟩
theorem oY {q:al×List ai} (h:bM q.2) (hf:q.1.vI<=1000):bM (bD q).2/\(bD q).2.length=q.2.length:=by
 obtain ⟨a,b,c⟩:=dm (q:=q) h hf q.2.length;unfold bD;split
 . exact ⟨a,c⟩
 obtain ⟨a2,c2⟩:=kU (q:=({(aS q q.2.length).1 with tail:=(aS q q.2.length).1.seq},(aS q q.2.length).2)) a b.2.2.2.2.2.2.2.2.2.1;exact ⟨a2,c2.trans c⟩
theorem ud {x:al} {ms:List ai} {ds:List (Int×List Int)} (hw:aM ms ds<=1048576):aM (hJ x ms ds).2 ds<=2097152:=by
 unfold hJ;split
 . rename_i h
   simp only [Bool.and_eq_true] at h
   obtain ⟨fc,mk,_⟩:=cH h.1;obtain ⟨a,_,c⟩:=dm (q:=(x,ms)) mk fc ms.length;exact jj h.1 a c hw
 exact Nat.le_trans hw (by omega)
theorem ue {x:al} {ms:List ai} {ds:List (Int×List Int)} (hw:aM ms ds<=1048576):aM (gd x ms ds).2 ds<=2097152:=by
 unfold gd;split
 . rename_i h
   simp only [Bool.and_eq_true] at h
   obtain ⟨fc,mk,_⟩:=cH h.1.1;obtain ⟨a,c⟩:=kU (q:=(x,ms)) mk fc;exact jj h.1.1 a c hw
 exact Nat.le_trans hw (by omega)
theorem sS {x:al} {ms:List ai} {ds:List (Int×List Int)} (hw:aM ms ds<=1048576):aM (eo x ms ds).2 ds<=2097152:=by
 unfold eo;split
 . rename_i h
   simp only [Bool.and_eq_true] at h
   obtain ⟨fc,mk,_⟩:=cH h.1.1;obtain ⟨a,c⟩:=oY (q:=(x,ms)) mk fc;exact jj h.1.1 a c hw
 exact Nat.le_trans hw (by omega)
theorem pP (w:World) (B:Nat) (x:al) (ms:List ai) (ds:List (Int×List Int)) (fm fd:List Nat) (h:aD w B x ms ds fm fd) (hf:x.vI<=1000):
 Calls Tryz.prog 178 #[.pointer (some ⟨B,0,none⟩)] w fun e w'=>e=.returned (.bool (opB x))/\aD w' B (opX x) ms ds fm fd/\aJ B fm w fm w':=by
 obtain ⟨bm,bd,cm,cd,X,hm,hd,hr,r1,r2⟩:=h;unfold aC at X;obtain ⟨k0,k1,k2,k3,k4,k5,k6,k7,k8,k9,k10,k11,k12⟩:=X.cells13;have fz:=X.frozen;cases hdn:x.down
 . rw [hdn] at k11
   by_cases h0:x.vI=0
   . have HB:Hid (opB x=false):=by unfold Hid opB;simp [h0]
     have HX:Hid (opX x={x with down:=true,vI:=-1}):=by unfold Hid opX;rw [if_neg (by simp [hdn]),if_pos h0]
     have Y:=(X.set 11 (.bool true)).set 10 (.int .i64 (-1));have M:=aa ((hm.setCell (g:=B) (j:=11) r1 (.bool true)).setCell (g:=B) (j:=10) r1 (.int .i64 (-1)));have D:=aa ((hd.setCell (g:=B) (j:=11) r2 (.bool true)).setCell (g:=B) (j:=10) r2 (.int .i64 (-1)));have MV:=aa ((aJ.set (B:=B) (j:=11) (fm:=fm) (w:=w) (.bool true)).trans (aJ.set (B:=B) (j:=10) (.int .i64 (-1))));have YH:=aa Y;rw [h0] at k10;clear Y X hm hd hdn h0;go_enter Tryz.func178,Tryz.ntmps178
     go_wp2
     go_ret
     exact ⟨ag HB.out.symm,by rw [HX.out];exact ⟨bm,bd,cm,cd,YH.out,M.out,D.out,hr,r1,r2⟩,MV.out⟩
   have e0:(x.vI==0)=false:=by simpa using h0
   have HB:Hid (opB x=true):=by unfold Hid opB;simp [h0,hdn]
   by_cases h1:0<x.vI
   . have hw:IntKind.i64.wrap (x.vI-1)=x.vI-1:=IntWalk.i64_in _ (by omega)
     have HX:Hid (opX x={x with vI:=x.vI-1}):=by unfold Hid opX;rw [if_neg (by simp [hdn]),if_neg h0,if_pos h1]
     have YH:=aa (X.set 10 (.int .i64 (x.vI-1)));have M:=aa (hm.setCell (g:=B) (j:=10) r1 (.int .i64 (x.vI-1)));have D:=aa (hd.setCell (g:=B) (j:=10) r2 (.int .i64 (x.vI-1)));have MV:=aa (aJ.set (B:=B) (j:=10) (fm:=fm) (w:=w) (.int .i64 (x.vI-1)));clear X hm hd hdn h0;go_enter Tryz.func178,Tryz.ntmps178
     go_wp2
     go_ret
     exact ⟨ag HB.out.symm,by rw [HX.out];exact ⟨bm,bd,cm,cd,YH.out,M.out,D.out,hr,r1,r2⟩,MV.out⟩
   have HX:Hid (opX x=x):=by unfold Hid opX;rw [if_neg (by simp [hdn]),if_neg h0,if_neg h1]
   have YH:=aa X;clear hdn h0 X;go_enter Tryz.func178,Tryz.ntmps178
   go_wp2
   go_ret
   exact ⟨ag HB.out.symm,by rw [HX.out];exact ⟨bm,bd,cm,cd,YH.out,hm,hd,hr,r1,r2⟩,aJ.refl _ _ _⟩
 have HB:Hid (opB x=false):=by unfold Hid opB;simp [hdn]
 have HX:Hid (opX x=x):=by unfold Hid opX;rw [if_pos hdn]
 rw [hdn] at k11;have YH:=aa X;clear hdn X;go_enter Tryz.func178,Tryz.ntmps178
 go_wp2
 go_ret
 exact ⟨ag HB.out.symm,by rw [HX.out];exact ⟨bm,bd,cm,cd,YH.out,hm,hd,hr,r1,r2⟩,aJ.refl _ _ _⟩
theorem hU (w:World) (B:Nat) (x:al) (ms:List ai) (ds:List (Int×List Int)) (fm fd:List Nat) (h:aD w B x ms ds fm fd) (hf:x.vI<=1000) (hM:bM ms) (m:Nat) (hm:m<ms.length) (n:Int) (a5:Option Addr) (n5 c5:Nat) (sw:List Int) (f5:List Nat) (h5:aA.Mine w [.slice a5 n5 c5] sw f5) (h5B:B∉f5) (h5f:∀b∈f5,b∉fm) (hn5:n5<=2097152):
 Calls Tryz.prog 181 #[.pointer (some ⟨B,0,none⟩),.int .i64 (m:Int),.int .i64 n,.slice a5 n5 c5] w fun e w'=>e=.returned (.tuple #[])/\∃fm',aD w' B (fA (x,ms) m n sw).1 (fA (x,ms) m n sw).2 ds fm' fd/\aJ B fm w fm' w':=by
 have h00:=h;obtain ⟨bm,bd,cm,cd,X,hmm,hdd,hr,r1,r2⟩:=h;unfold aC at X;obtain ⟨g,rfl⟩:=bU hmm (by omega);have hdj:ms[m]?=some (ms[m]'hm):=List.getElem?_eq_getElem hm;generalize ms[m]'hm=d at hdj;obtain ⟨hgl,a0,a1,a3,c0,c1,c3,ss,cs,f,bs,rfl,q0,q1,q2,q3,_,_,_⟩:=dM hmm hdj;obtain ⟨k0,k1,k2,k3,k4,k5,k6,k7,k8,k9,k10,k11,k12⟩:=X.cells13;have i1:(0:Int)<=(m:Int):=by omega
 have i2:(m:Int)<(ms.length:Int):=by omega
 cases f
 . have H0:=aa h00
   clear X hmm hdd hgl q0 q1 q3;go_enter Tryz.func181,Tryz.ntmps181
   go_wp2_with fail
   refine (pP _ B x ms ds fm fd H0.out hf).mono ?_
   rintro e w1 ⟨rfl,hA1,hMv1⟩;clear k0 k1 k2 k3 k4 k5 k6 k7 k8 k9 k10 k11 k12 q2 H0 h00;cases ho:opB x
   . have HP:Hid (fA (x,ms) m n sw=(opX x,ms)):=qR hdj rfl ho
     go_wp2
     refine bodyPost_ret (v:=.tuple #[]) (by simp [results,Tryz.results181,go_sem]) rfl ?_
     exact ⟨rfl,fm,by rw [HP.out];exact hA1,hMv1⟩
   have HP:Hid (fA (x,ms) m n sw=(opX x,ms.set m (wrM (ss,cs,false,bs) n sw))):=oU hdj rfl ho;obtain ⟨bm,bd,cm,cd,X,hmm,hdd,hr,r1,r2⟩:=hA1;obtain ⟨g,rfl⟩:=bU hmm (by omega);obtain ⟨hgl,a0,a1,a3,c0,c1,c3,ss,cs,f,bs,hde,q0,q1,q2,q3,p0,p1,p3⟩:=dM hmm hdj;simp only [Prod.mk.injEq] at hde
   obtain ⟨rfl,rfl,rfl,rfl⟩:=hde;have X0:=X;unfold aC at X0;obtain ⟨k0,k1,k2,k3,k4,k5,k6,k7,k8,k9,k10,k11,k12⟩:=X0.cells13;have hwt:=du (hM m _ hdj) false;dsimp only at hwt
   have XH:=aa X;have MH:=aa hmm;have DH:=aa hdd;have MV:=aa hMv1;have DJ:=aa hdj;have h51:=(hMv1.mine h5 h5B h5f).rd;clear X X0 hmm hdd hMv1 hdj;go_wp2_with fail
   refine (gW _ 171 _ _ _ _ _ _ _ _ _ _ _ _ ss cs false bs n sw p0 p1 p3 h51 (by omega) hn5).mono ?_
   rintro e w2 ⟨u0,u1,u3,rfl,o2,b2⟩;obtain ⟨d0,l0,f0,d1,l1,f1,d3,l3,f3,hv0,hv1,hv3⟩:=bS o2;subst hv0 hv1 hv3;have b3:=ae w2 (.cells #[.slice d0 l0 f0,.slice d1 l1 f1,.bool false,.slice d3 l3 f3] 101);have b13:Below w1.heap.size w1 (w2.alloc (.cells #[.slice d0 l0 f0,.slice d1 l1 f1,.bool false,.slice d3 l3 f3] 101)):=Below.andThen b2 b3;have Y3:=Box.new w2 101 #[.slice d0 l0 f0,.slice d1 l1 f1,.bool false,.slice d3 l3 f3];have zY:=Y3.lt;have z2:=b2.size;obtain ⟨fpx,mx,rx⟩:=(o2.below b3).mine;obtain ⟨cOld,fz,hgm,fm9,hA9,hMv9⟩:=eu XH.out MH.out DH.out hr r1 r2 b13 hm mx (fun b hb=>(rx b hb).1);obtain ⟨o0,t0⟩:=cOld 0 (by omega);obtain ⟨o1,t1⟩:=cOld 1 (by omega);obtain ⟨o2',t2⟩:=cOld 2 (by omega);obtain ⟨o3,t3⟩:=cOld 3 (by omega);rw [Nat.add_zero] at t0;have HA:=aa hA9;have HMV:=aa (MV.out.trans hMv9);have X3:=XH.out.below b13 XH.out.lt;unfold aC at X3;have gB:¬g=B:=fun e=>r1 (e▸hgm);have gY:¬g=w2.heap.size:=by omega
   obtain ⟨y0,y1,y2,y3⟩:=Y3.cells4;have x3:=X3.cells13.2.2.2.1;have hS:(w2.alloc (.cells #[.slice d0 l0 f0,.slice d1 l1 f1,.bool false,.slice d3 l3 f3] 101)).drew.cell? ⟨B,3,none⟩=some (.slice (some ⟨g,0,none⟩) ms.length cm)/\(w2.alloc (.cells #[.slice d0 l0 f0,.slice d1 l1 f1,.bool false,.slice d3 l3 f3] 101)).drew.cell? ⟨w2.heap.size,0,none⟩=some (.slice d0 l0 f0)/\(w2.alloc (.cells #[.slice d0 l0 f0,.slice d1 l1 f1,.bool false,.slice d3 l3 f3] 101)).drew.cell? ⟨w2.heap.size,1,none⟩=some (.slice d1 l1 f1)/\(w2.alloc (.cells #[.slice d0 l0 f0,.slice d1 l1 f1,.bool false,.slice d3 l3 f3] 101)).drew.cell? ⟨w2.heap.size,2,none⟩=some (.bool false)/\(w2.alloc (.cells #[.slice d0 l0 f0,.slice d1 l1 f1,.bool false,.slice d3 l3 f3] 101)).drew.cell? ⟨w2.heap.size,3,none⟩=some (.slice d3 l3 f3):=⟨x3,y0,y1,y2,y3⟩;unfold fi at HA HMV;clear k0 k1 k2 k3 k4 k5 k6 k7 k8 k9 k10 k11 k12 q0 q1 q2 q3 p0 p1 p3 h51 o2 b2 b3 b13 Y3 mx rx cOld hA9 hMv9 X3 x3 XH MH DH MV hwt;go_wp2_with fail
   refine ah.start (S:=fun w'=>w'.cell? ⟨B,3,none⟩=some (.slice (some ⟨g,0,none⟩) ms.length cm)/\w'.cell? ⟨w2.heap.size,0,none⟩=some (.slice d0 l0 f0)/\w'.cell? ⟨w2.heap.size,1,none⟩=some (.slice d1 l1 f1)/\w'.cell? ⟨w2.heap.size,2,none⟩=some (.bool false)/\w'.cell? ⟨w2.heap.size,3,none⟩=some (.slice d3 l3 f3)) (k:=7) (by kernel_rfl) ?_
   refine ah.t 0 hS ?_
   refine ah.t 1 hS ?_
   refine ah.t 2 hS ?_
   refine ah.t 3 hS ?_
   refine ah.t 4 hS ?_
   refine ah.t 5 hS ?_
   refine ah.t 6 hS ?_
   refine ah.one (i:=7) (by kernel_rfl) rfl (fun K hK=>?_)
   go_simp
   refine hK.out _ _ (fun h=>absurd rfl h) ?_
   clear hK K;refine ah.done (by kernel_rfl) ?_ _
   clear hS y0 y1 y2 y3 t0 t1 t2 t3 fz;go_wp2
   refine bodyPost_end (v:=.tuple #[]) (results_none rfl _ _ _) rfl ?_
   exact ⟨rfl,fm9,by rw [HP.out];exact HA.out.drew,HMV.out.drew⟩
 have HP:Hid (fA (x,ms) m n sw=(x,ms)):=lS hdj rfl;clear X hmm hdd hgl q0 q1 q3;go_enter Tryz.func181,Tryz.ntmps181
 go_wp2
 refine bodyPost_ret (v:=.tuple #[]) (by simp [results,Tryz.results181,go_sem]) rfl ?_
 exact ⟨rfl,fm,by rw [HP.out];exact h00,aJ.refl _ _ _⟩
theorem kV {w:World} {vs:List Value} {x:Int×List Int} {fp:List Nat} (h:tWr.Mine w vs x fp):∃a cap,vs=[.int .i64 x.1,.slice a x.2.length cap]/\aA.Mine w [.slice a x.2.length cap] x.2 fp:=by
 have hl:vs.length=2:=tWr.rdLen (tWr.owRd h.1);match vs,hl,h with
 | [u0,u1],_,h=>
  obtain ⟨f1,f2,hf,m1,m2,_⟩:=et (t:=ey) (u:=aA) (vs:=[u0]) (us:=[u1]) rfl h;obtain ⟨e1,e2⟩:=m1.1;subst e2;obtain ⟨a,cap,rfl⟩:=az m2.rd;refine ⟨a,cap,by simpa using e1,?_⟩
  rw [hf];exact m2
theorem aw.adrew {fp:List Nat} {w w':World} (h:aw fp w w'):aw fp w w'.drew:=⟨h.os,h.tape,h.output,h.size,h.block⟩
theorem Ty.Mine.adrew {t:Ty} {w:World} {vs:List Value} {d:t.D} {fp:List Nat} (h:t.Mine w vs d fp):t.Mine w.drew vs d fp:=h.kept (aw.adrew (aw.refl [] w)) (by simp)
theorem pQ {w:World} {E:TypeId} {lo hi n cap:Nat} {b:Option Addr} {cs:List (Int×List Int)} (h:(aU E).Own w lo hi [.slice b n cap] cs):
 ∃(gC:Nat) (F:Nat->List Nat),(n=0∨(b=some ⟨gC,0,none⟩/\lo<=gC/\gC<hi))/\(∀i x,cs[i]?=some x->∃a c,aA.Mine w [.slice a x.2.length c] x.2 (F i)/\(∀b∈F i,lo<=b/\b<hi)/\w.cell? ⟨gC,i*2,none⟩=some (.int .i64 x.1)/\w.cell? ⟨gC,i*2+1,none⟩=some (.slice a x.2.length c))/\∀i j,i<j->j<cs.length->∀b∈F i,b∉F j:=by
 have hl:=(af h.rd).1;rcases h.rowShape with h0|⟨g,rfl⟩
 . refine ⟨0,fun _=>[],.inl h0,fun i x hx=>?_,by simp⟩
   have:=(List.getElem?_eq_some_iff.1 hx).1;omega
 obtain ⟨fp,m,r⟩:=h.mine;obtain ⟨hg,F,h1,h2⟩:=eO m;refine ⟨g,F,.inr ⟨rfl,r g hg⟩,fun i x hx=>?_,h2⟩
 obtain ⟨vs,m1,_,m3,m4⟩:=h1 i x hx;obtain ⟨a,c,rfl,m5⟩:=kV m1;exact ⟨a,c,m5,fun b hb=>r b (m3 b hb),m4 0 (by decide),m4 1 (by decide)⟩
theorem hX (w:World) (E:TypeId) (a0 a1 a3:Option Addr) (n0 c0 n1 c1 n3 c3:Nat) (ss:List (List Int)) (cs:List (Int×List Int)) (f:Bool) (bs:List Int) (h0:aT.Rd w [.slice a0 n0 c0] ss) (h1:(aU E).Rd w [.slice a1 n1 c1] cs) (h3:aA.Rd w [.slice a3 n3 c3] bs) (hw:aQ (ss,cs,f,bs)<=2097152):
 Calls Tryz.prog 179 #[.agg #[.slice a0 n0 c0,.slice a1 n1 c1,.bool f,.slice a3 n3 c3]] w fun e w'=>∃v0 v1 v3,e=.returned (.agg #[v0,v1,.bool f,v3])/\(bR 171).Own w' w.heap.size w'.heap.size [v0,v1,.bool f,v3] (gU ss cs f bs,iK ss cs f bs,f,bs)/\Below w.heap.size w w':=by
 obtain ⟨hl0,_,hm0⟩:=af h0;obtain ⟨hl1,_,hm1⟩:=af h1;obtain ⟨hl3,_,hm3⟩:=af h3;have hwc:bh cs<=2097152:=by unfold aQ at hw;simp only at hw;omega
 by_cases hM:bp ss cs bs=true
 . have hn20:n0<=20:=by have:=jM hM;omega
   have hks:=lJ hM;by_cases hf:f=true
   . subst hf
     have e1:gU ss cs true bs=ss:=by unfold gU;simp
     have e2:iK ss cs true bs=cs:=by unfold iK;simp
     rw [e1,e2];clear e1 e2;have hA:Below w.heap.size w ((w.alloc (.cells #[.slice a0 n0 c0,.slice a1 n1 c1,.bool true,.slice a3 n3 c3] 101)).alloc (.cells #[.slice none 0 0,.slice none 0 0,.bool false,.slice none 0 0] 101)):=((Below.refl _ _).alloc (Nat.le_refl _) _).alloc (by simp) _;have xm:Box ((w.alloc (.cells #[.slice a0 n0 c0,.slice a1 n1 c1,.bool true,.slice a3 n3 c3] 101)).alloc (.cells #[.slice none 0 0,.slice none 0 0,.bool false,.slice none 0 0] 101)) w.heap.size 101 #[.slice a0 n0 c0,.slice a1 n1 c1,.bool true,.slice a3 n3 c3]:=(Box.new w _ _).alloc _;have xr:Box ((w.alloc (.cells #[.slice a0 n0 c0,.slice a1 n1 c1,.bool true,.slice a3 n3 c3] 101)).alloc (.cells #[.slice none 0 0,.slice none 0 0,.bool false,.slice none 0 0] 101)) (w.heap.size+1) 101 #[.slice none 0 0,.slice none 0 0,.bool false,.slice none 0 0]:=by
      have:=Box.new (w.alloc (.cells #[.slice a0 n0 c0,.slice a1 n1 c1,.bool true,.slice a3 n3 c3] 101)) 101 #[.slice none 0 0,.slice none 0 0,.bool false,.slice none 0 0];rw [show (w.alloc (.cells #[.slice a0 n0 c0,.slice a1 n1 c1,.bool true,.slice a3 n3 c3] 101)).heap.size=w.heap.size+1 by simp] at this;exact this
     go_enter Tryz.func179,Tryz.ntmps179
     go_wp2_with fail
     generalize hW:(w.alloc (.cells #[.slice a0 n0 c0,.slice a1 n1 c1,.bool true,.slice a3 n3 c3] 101)).alloc (.cells #[.slice none 0 0,.slice none 0 0,.bool false,.slice none 0 0] 101)=W at hA xm xr ⊢;clear hW;have zr:=xr.lt;obtain ⟨q0,q1,q2,q3⟩:=xm.cells4;have XM:=aa xm;have XR:=aa xr;clear xm xr;refine (en _ E _ _ _ _ _ _ _ _ _ ss cs true bs (h0.below hA) (h1.below hA) (h3.below hA) hw).mono ?_
     intro e w1 hc;obtain ⟨b0,b1,b3,e0,e1,e3,m1,m2,rfl,o3,o0,o1,r1,r2,r3,bb⟩:=cQ hl0 hl1 hl3 hc;clear hc;have z1:=bb.size;have sW:w.heap.size+2<=W.heap.size:=by omega
     have ba:Below w1.heap.size w1 (w1.alloc (.cells #[.slice b0 n0 e0,.slice b1 n1 e1,.bool true,.slice b3 n3 e3] 101)):=(Below.refl _ _).alloc (Nat.le_refl _) _;have yo:=Box.new w1 101 #[.slice b0 n0 e0,.slice b1 n1 e1,.bool true,.slice b3 n3 e3];have zo:=yo.lt;have YO:=aa yo;have YR:=aa ((XR.out.below bb zr).below ba (by omega));have YM:=aa ((XM.out.below bb (by omega)).below ba (by omega));have K0:=aa (o0.below ba);have K1:=aa (o1.below ba);have K3:=aa (o3.below ba);have KB:=aa (hA.trans ((bb.mono (by omega:w.heap.size<=W.heap.size)).trans (ba.mono (by omega))));clear yo o0 o1 o3 XM XR bb ba hA q0 q1 q2 q3;obtain ⟨q0,q1,q2,q3⟩:=YM.out.cells4;go_wp2_with fail
     generalize w1.alloc (.cells #[.slice b0 n0 e0,.slice b1 n1 e1,.bool true,.slice b3 n3 e3] 101)=w2 at YO YR YM K0 K1 K3 KB zo q0 q1 q2 q3 ⊢;refine (aW _ E _ _ _ _ _ _ _ _ _ ss cs true bs (h0.below KB.out) (h1.below KB.out) (h3.below KB.out) hw).mono ?_
     rintro e w3 ⟨rfl,b4⟩;have z3:=b4.size;have XO:=aa (YO.out.below b4 (by omega));have XR:=aa (YR.out.below b4 (by omega));have XM:=aa (YM.out.below b4 (by omega));have L0:=aa (K0.out.below b4);have L1:=aa (K1.out.below b4);have L3:=aa (K3.out.below b4);have LB:=aa (KB.out.trans (b4.mono (by have:=KB.out.size;omega)));clear YO YR YM K0 K1 K3 KB b4 q0 q1 q2 q3;obtain ⟨q0,q1,q2,q3⟩:=XM.out.cells4;obtain ⟨x0,x1,x2,x3⟩:=XO.out.cells4;obtain ⟨p0,p1,p2,p3⟩:=XR.out.cells4;have fz:=XR.out.frozen;have hbt:But (w.heap.size+1) (w.heap.size+2) w3 ((((w3.setCell ⟨w.heap.size+1,0,none⟩ (.slice b0 n0 e0)).setCell ⟨w.heap.size+1,1,none⟩ (.slice b1 n1 e1)).setCell ⟨w.heap.size+1,2,none⟩ (.bool true)).setCell ⟨w.heap.size+1,3,none⟩ (.slice b3 n3 e3)):=
      (((But.setCell (by omega) (by omega) _).trans (But.setCell (by omega) (by omega) _)).trans (But.setCell (by omega) (by omega) _)).trans (But.setCell (by omega) (by omega) _)
     have z9:=hbt.size;have FIN:Hid ((bR 171).Own ((((w3.setCell ⟨w.heap.size+1,0,none⟩ (.slice b0 n0 e0)).setCell ⟨w.heap.size+1,1,none⟩ (.slice b1 n1 e1)).setCell ⟨w.heap.size+1,2,none⟩ (.bool true)).setCell ⟨w.heap.size+1,3,none⟩ (.slice b3 n3 e3)) w.heap.size ((((w3.setCell ⟨w.heap.size+1,0,none⟩ (.slice b0 n0 e0)).setCell ⟨w.heap.size+1,1,none⟩ (.slice b1 n1 e1)).setCell ⟨w.heap.size+1,2,none⟩ (.bool true)).setCell ⟨w.heap.size+1,3,none⟩ (.slice b3 n3 e3)).heap.size [.slice b0 n0 e0,.slice b1 n1 e1,.bool true,.slice b3 n3 e3] (ss,cs,true,bs)):=ch (L0.out.but hbt (by omega)) (L1.out.but hbt (by omega)) (L3.out.but hbt (by omega)) (by omega) (by omega) (by omega) (by omega) (by omega) (by omega);have FB:=aa (Below.andBut LB.out hbt (by omega));clear hbt;go_wp2
     refine bodyPost_ret (v:=.agg #[.slice b0 n0 e0,.slice b1 n1 e1,.bool true,.slice b3 n3 e3]) (by simp [results,Tryz.results179,go_sem,p0,p1,p2,p3]) rfl ?_
     exact ⟨_,_,_,rfl,FIN.out,FB.out⟩
   have hf:f=false:=by simpa using hf
   subst hf;have e1:gU ss cs false bs=dr ss cs:=by unfold gU;simp [hM]
   have e2:iK ss cs false bs=[]:=by unfold iK;simp [hM]
   rw [e1,e2];clear e1 e2;have hA:Below w.heap.size w ((w.alloc (.cells #[.slice a0 n0 c0,.slice a1 n1 c1,.bool false,.slice a3 n3 c3] 101)).alloc (.cells #[.slice none 0 0,.slice none 0 0,.bool false,.slice none 0 0] 101)):=((Below.refl _ _).alloc (Nat.le_refl _) _).alloc (by simp) _;have xm:Box ((w.alloc (.cells #[.slice a0 n0 c0,.slice a1 n1 c1,.bool false,.slice a3 n3 c3] 101)).alloc (.cells #[.slice none 0 0,.slice none 0 0,.bool false,.slice none 0 0] 101)) w.heap.size 101 #[.slice a0 n0 c0,.slice a1 n1 c1,.bool false,.slice a3 n3 c3]:=(Box.new w _ _).alloc _;have xr:Box ((w.alloc (.cells #[.slice a0 n0 c0,.slice a1 n1 c1,.bool false,.slice a3 n3 c3] 101)).alloc (.cells #[.slice none 0 0,.slice none 0 0,.bool false,.slice none 0 0] 101)) (w.heap.size+1) 101 #[.slice none 0 0,.slice none 0 0,.bool false,.slice none 0 0]:=by
    have:=Box.new (w.alloc (.cells #[.slice a0 n0 c0,.slice a1 n1 c1,.bool false,.slice a3 n3 c3] 101)) 101 #[.slice none 0 0,.slice none 0 0,.bool false,.slice none 0 0];rw [show (w.alloc (.cells #[.slice a0 n0 c0,.slice a1 n1 c1,.bool false,.slice a3 n3 c3] 101)).heap.size=w.heap.size+1 by simp] at this;exact this
   go_enter Tryz.func179,Tryz.ntmps179
   go_wp2_with fail
   generalize hW:(w.alloc (.cells #[.slice a0 n0 c0,.slice a1 n1 c1,.bool false,.slice a3 n3 c3] 101)).alloc (.cells #[.slice none 0 0,.slice none 0 0,.bool false,.slice none 0 0] 101)=W at hA xm xr ⊢;clear hW;have zr:=xr.lt;obtain ⟨q0,q1,q2,q3⟩:=xm.cells4;have XM:=aa xm;have XR:=aa xr;clear xm xr;refine (en _ E _ _ _ _ _ _ _ _ _ ss cs false bs (h0.below hA) (h1.below hA) (h3.below hA) hw).mono ?_
   intro e w1 hc;obtain ⟨b0,b1,b3,e0,e1,e3,m1,m2,rfl,o3,o0,o1,r1,r2,r3,bb⟩:=cQ hl0 hl1 hl3 hc;clear hc;have z1:=bb.size;have sW:w.heap.size+2<=W.heap.size:=by omega
   have ba:Below w1.heap.size w1 (w1.alloc (.cells #[.slice b0 n0 e0,.slice b1 n1 e1,.bool false,.slice b3 n3 e3] 101)):=(Below.refl _ _).alloc (Nat.le_refl _) _;have yo:=Box.new w1 101 #[.slice b0 n0 e0,.slice b1 n1 e1,.bool false,.slice b3 n3 e3];have zo:=yo.lt;have YO:=aa yo;have YR:=aa ((XR.out.below bb zr).below ba (by omega));have YM:=aa ((XM.out.below bb (by omega)).below ba (by omega));have K0:=aa (o0.below ba);have K1:=aa (o1.below ba);have K3:=aa (o3.below ba);have KB:=aa (hA.trans ((bb.mono (by omega:w.heap.size<=W.heap.size)).trans (ba.mono (by omega))));clear yo o0 o1 o3 XM XR bb ba hA q0 q1 q2 q3;obtain ⟨q0,q1,q2,q3⟩:=YM.out.cells4;go_wp2_with fail
   generalize w1.alloc (.cells #[.slice b0 n0 e0,.slice b1 n1 e1,.bool false,.slice b3 n3 e3] 101)=w2 at YO YR YM K0 K1 K3 KB zo q0 q1 q2 q3 ⊢;refine (aW _ E _ _ _ _ _ _ _ _ _ ss cs false bs (h0.below KB.out) (h1.below KB.out) (h3.below KB.out) hw).mono ?_
   rintro e w3 ⟨rfl,b4⟩;have z3:=b4.size;have XO:=aa (YO.out.below b4 (by omega));have XR:=aa (YR.out.below b4 (by omega));have XM:=aa (YM.out.below b4 (by omega));have L0:=aa (K0.out.below b4);have L1:=aa (K1.out.below b4);have L3:=aa (K3.out.below b4);have LB:=aa (KB.out.trans (b4.mono (by have:=KB.out.size;omega)));clear YO YR YM K0 K1 K3 KB b4 q0 q1 q2 q3;obtain ⟨q0,q1,q2,q3⟩:=XM.out.cells4;obtain ⟨x0,x1,x2,x3⟩:=XO.out.cells4;have hn1':0<n0:=by have:=tN hM;omega
   obtain ⟨gS,hb0⟩:∃gS,b0=some ⟨gS,0,none⟩:=by
    rcases L0.out.rowShape with h|⟨g,h⟩
    . omega
    exact ⟨g,h⟩
   subst hb0;obtain ⟨fpS0,mS0,rS0⟩:=L0.out.mine;have hgS:=rS0 gS (eO mS0).1;obtain ⟨gC,FC,hC0,hC1,hC2⟩:=pQ L1.out;have MS0:=aa mS0;have RS0:=aa rS0;have HC1:=aa hC1;have HC2:=aa hC2;clear mS0 rS0 hC1 hC2;go_wp2
   clear x0 x1 x2 x3;go_loopw [4] (fun i wr=>∃(j:Nat) (fpS:List Nat),j<=n1/\i=.int .i64 j/\aw [gS] w3 wr/\aT.Mine wr [.slice (some ⟨gS,0,none⟩) n0 e0] (dr ss (cs.take j)) fpS/\(∀b∈fpS,(m1<=b/\b<m2)∨∃i,i<j/\b∈FC i)) (fun i _=>n1-(intOf i).toNat)
   case atStart=>exact ⟨0,fpS0,Nat.zero_le _,rfl,aw.refl _ _,by rw [List.take_zero,qL];exact MS0.out,fun b hb=>.inl (RS0.out b hb)⟩
   obtain ⟨j,fpS,hj,rfl,tn,hS,hfp⟩:=hrel;have hs:=tn.size;have xo:=XO.out.turned tn (by simp;omega);obtain ⟨y0,y1,y2,y3⟩:=xo.cells4;by_cases hjn:j<n1
   . have k1:(0:Int)<=(j:Int):=by omega
     have k2:(j:Int)<(n1:Int):=by omega
     rcases hC0 with hC0|⟨rfl,hC3,hC4⟩
     . omega
     have hdj:cs[j]?=some (cs[j]'(by omega)):=List.getElem?_eq_getElem (by omega);have htk:cs.take (j+1)=cs.take j++[cs[j]'(by omega)]:=List.take_succ_eq_append_getElem (by omega);have hmem:cs[j]'(by omega)∈cs:=List.getElem_mem _;generalize cs[j]'(by omega)=x at hdj htk hmem;obtain ⟨q,hq,hql⟩:=nj hM x hmem;obtain ⟨av,cv,mx,rx,cv0,cv1⟩:=HC1.out j x hdj;obtain ⟨x0,x1⟩:=x;simp only at hq mx rx cv0 cv1
     subst hq;have ncs:gC≠gS:=by omega
     have d0:=(cW (tn.block gC (by omega) (by simp;omega)) (j*2)).trans cv0;have d1:=(cW (tn.block gC (by omega) (by simp;omega)) (j*2+1)).trans cv1;have mr:=mx.kept tn (fun b hb hb'=>by have:=rx b hb;simp at hb';omega);obtain ⟨⟨old,cOld⟩,fz,hgm,fpA,mA,rA⟩:=gK (j:=q) rfl hS (by omega) mr (fun b hb hb'=>by
      have h1:=rx b hb;rcases hfp b hb' with h2|⟨i,h2,h3⟩
      . omega
      exact HC2.out i j h2 (by omega) b h3 hb)
     have hfA:∀b∈fpA,(m1<=b/\b<m2)∨∃i,i<j+1/\b∈FC i:=fun b hb=>by
      rcases rA b hb with h|h
      . rcases hfp b h with h2|⟨i,h2,h3⟩
        . exact .inl h2
        exact .inr ⟨i,by omega,h3⟩
      exact .inr ⟨j,by omega,h⟩
     have k3:(0:Int)<=(q:Int):=by omega
     have k4:(q:Int)<(n0:Int):=by omega
     have HTK:=aa htk;have HFA:=aa hfA;have MA:=aa mA;have TA:=aa (tn.trans (aw.setCell (w:=wr) (g:=gS) (j:=q) (.slice av x1.length cv) (List.mem_cons_self:gS∈[gS])));have XOR:=aa xo;have nO:Hid (w1.heap.size≠gS):=by unfold Hid;omega
     have nC:Hid (gC≠gS):=ncs;have hT:Hid (wr.cell? ⟨gC,j*2,none⟩=some (.int .i64 (q:Int))/\wr.cell? ⟨gC,j*2+1,none⟩=some (.slice av x1.length cv)):=⟨d0,d1⟩;clear hdj htk hmem mx rx cv0 cv1 mr hfA mA rA tn hS hfp xo hgm ncs;go_wp2_with fail
     go_region_held3 (fun w'=>w'.cell? ⟨w1.heap.size,0,none⟩=some (.slice (some ⟨gS,0,none⟩) n0 e0)/\w'.cell? ⟨w1.heap.size,1,none⟩=some (.slice (some ⟨gC,0,none⟩) n1 e1)/\w'.cell? ⟨gC,j*2,none⟩=some (.int .i64 (q:Int))/\w'.cell? ⟨gC,j*2+1,none⟩=some (.slice av x1.length cv))
      (first|(exact ⟨y0,y1,d0,d1⟩)|(exact ⟨(XOR.out.other nO.out q (.slice av x1.length cv)).cell 0,(XOR.out.other nO.out q (.slice av x1.length cv)).cell 1,(cW (Below.heap_setCell _ _ _ _ nC.out) _).trans d0,(cW (Below.heap_setCell _ _ _ _ nC.out) _).trans d1⟩)|go_keep)
      (fail)
     clear d0 d1 y0 y1 y2 y3 cOld fz XOR nO nC hT;go_wp2
     go_roundw
     case rel=>exact ⟨j+1,fpA,by omega,by go_num,aw.adrew TA.out,by rw [HTK.out,pK (by omega)];exact Ty.Mine.adrew MA.out,HFA.out⟩
     case measure=>simp [intOf];omega
   have e:n1=j:=by omega
   subst e;rw [List.take_of_length_le (by omega)] at hS;have yo:=xo.alloc (.cells #[] 171);have ys:=yo.set 1 (.slice (some ⟨wr.heap.size,0,none⟩) 0 0);have yt:=((XR.out.turned tn (by simp;omega)).alloc (.cells #[] 171)).other (g:=w1.heap.size) (by omega) 1 (.slice (some ⟨wr.heap.size,0,none⟩) 0 0);obtain ⟨s0,s1,s2,s3⟩:=yo.cells4;have fo:=yo.frozen 1;obtain ⟨t0,t1,t2,t3⟩:=Box.cells4 (v0:=.slice (some ⟨gS,0,none⟩) n0 e0) (v1:=(.slice (some ⟨wr.heap.size,0,none⟩) 0 0)) (v2:=.bool false) (v3:=.slice b3 n3 e3) ys;obtain ⟨p0,p1,p2,p3⟩:=yt.cells4;have fz:=yt.frozen;have zl:(wr.alloc (.cells #[] 171)).heap.size=wr.heap.size+1:=by simp
   have ZL:=aa zl;have bo:=But.setCell (lo:=w1.heap.size) (hi:=w1.heap.size+1) (g:=w1.heap.size) (j:=1) (w:=(wr.alloc (.cells #[] 171))) (Nat.le_refl _) (Nat.lt_succ_self _) (.slice (some ⟨wr.heap.size,0,none⟩) 0 0);have bl:Below wr.heap.size wr (wr.alloc (.cells #[] 171)):=(Below.refl _ _).alloc (Nat.le_refl _) _;have kl:=((dJ (t:=tWr) (E:=171) wr).own (lo:=wr.heap.size) (hi:=wr.heap.size+1) (fun b hb=>by simp at hb;omega)).but bo (.inr (by omega));have k0:=((hS.own (lo:=m1) (hi:=w1.heap.size) (fun b hb=>by
    rcases hfp b hb with h|⟨i,h2,h3⟩
    . omega
    by_cases hin:i<n1
    . obtain ⟨_,_,_,r,_⟩:=HC1.out i _ (List.getElem?_eq_getElem (by omega))
      have:=r b h3;omega
    omega)).below bl).but bo (.inl (Nat.le_refl _))
   have k3:=((L3.out.but (tn.but (lo:=m1) (hi:=m2) (by simp;omega)) (.inl (Nat.le_refl _))).below bl).but bo (.inl (by omega));have kb:Below w.heap.size w ((wr.alloc (.cells #[] 171)).setCell ⟨w1.heap.size,1,none⟩ (.slice (some ⟨wr.heap.size,0,none⟩) 0 0)):=LB.out.trans ((tn.below (N:=w.heap.size) (by omega) (by simp;omega)).trans ((bl.mono (by omega)).trans (bo.below (by omega) (by omega))));have zs:=bo.size;clear zl bo bl hS tn hfp xo yo ys yt q0 q1 q2 q3 XM hC0 HC1 HC2 MS0 RS0;go_wp2
   generalize ((wr.alloc (.cells #[] 171)).setCell ⟨w1.heap.size,1,none⟩ (.slice (some ⟨wr.heap.size,0,none⟩) 0 0))=wz at t0 t1 t2 t3 p0 p1 p2 p3 fz kl k0 k3 kb zs ⊢;have zL:=ZL.out;have hbt:But (w.heap.size+1) (w.heap.size+2) wz ((((wz.setCell ⟨w.heap.size+1,0,none⟩ (.slice (some ⟨gS,0,none⟩) n0 e0)).setCell ⟨w.heap.size+1,1,none⟩ (.slice (some ⟨wr.heap.size,0,none⟩) 0 0)).setCell ⟨w.heap.size+1,2,none⟩ (.bool false)).setCell ⟨w.heap.size+1,3,none⟩ (.slice b3 n3 e3)):=
    (((But.setCell (by omega) (by omega) _).trans (But.setCell (by omega) (by omega) _)).trans (But.setCell (by omega) (by omega) _)).trans (But.setCell (by omega) (by omega) _)
   have z9:=hbt.size;refine bodyPost_ret (v:=.agg #[.slice (some ⟨gS,0,none⟩) n0 e0,(.slice (some ⟨wr.heap.size,0,none⟩) 0 0),.bool false,.slice b3 n3 e3]) (by simp [results,Tryz.results179,go_sem,p0,p1,p2,p3]) rfl ?_
   exact ⟨_,_,_,rfl,ch (k0.but hbt (by omega)) (kl.but hbt (by omega)) (k3.but hbt (by omega)) (by omega) (by omega) (by omega) (by omega) (by omega) (by omega),Below.andBut kb hbt (by omega)⟩
 have hM:bp ss cs bs=false:=by simpa using hM
 have e1:gU ss cs f bs=ss:=by unfold gU;simp [hM]
 have e2:iK ss cs f bs=cs:=by unfold iK;simp [hM]
 rw [e1,e2];clear e1 e2;have hA:Below w.heap.size w ((w.alloc (.cells #[.slice a0 n0 c0,.slice a1 n1 c1,.bool f,.slice a3 n3 c3] 101)).alloc (.cells #[.slice none 0 0,.slice none 0 0,.bool false,.slice none 0 0] 101)):=((Below.refl _ _).alloc (Nat.le_refl _) _).alloc (by simp) _;have xm:Box ((w.alloc (.cells #[.slice a0 n0 c0,.slice a1 n1 c1,.bool f,.slice a3 n3 c3] 101)).alloc (.cells #[.slice none 0 0,.slice none 0 0,.bool false,.slice none 0 0] 101)) w.heap.size 101 #[.slice a0 n0 c0,.slice a1 n1 c1,.bool f,.slice a3 n3 c3]:=(Box.new w _ _).alloc _;have xr:Box ((w.alloc (.cells #[.slice a0 n0 c0,.slice a1 n1 c1,.bool f,.slice a3 n3 c3] 101)).alloc (.cells #[.slice none 0 0,.slice none 0 0,.bool false,.slice none 0 0] 101)) (w.heap.size+1) 101 #[.slice none 0 0,.slice none 0 0,.bool false,.slice none 0 0]:=by
  have:=Box.new (w.alloc (.cells #[.slice a0 n0 c0,.slice a1 n1 c1,.bool f,.slice a3 n3 c3] 101)) 101 #[.slice none 0 0,.slice none 0 0,.bool false,.slice none 0 0];rw [show (w.alloc (.cells #[.slice a0 n0 c0,.slice a1 n1 c1,.bool f,.slice a3 n3 c3] 101)).heap.size=w.heap.size+1 by simp] at this;exact this
 go_enter Tryz.func179,Tryz.ntmps179
 go_wp2_with fail
 generalize hW:(w.alloc (.cells #[.slice a0 n0 c0,.slice a1 n1 c1,.bool f,.slice a3 n3 c3] 101)).alloc (.cells #[.slice none 0 0,.slice none 0 0,.bool false,.slice none 0 0] 101)=W at hA xm xr ⊢;clear hW;have zr:=xr.lt;obtain ⟨q0,q1,q2,q3⟩:=xm.cells4;have XM:=aa xm;have XR:=aa xr;clear xm xr;refine (en _ E _ _ _ _ _ _ _ _ _ ss cs f bs (h0.below hA) (h1.below hA) (h3.below hA) hw).mono ?_
 intro e w1 hc;obtain ⟨b0,b1,b3,e0,e1,e3,m1,m2,rfl,o3,o0,o1,r1,r2,r3,bb⟩:=cQ hl0 hl1 hl3 hc;clear hc;have z1:=bb.size;have sW:w.heap.size+2<=W.heap.size:=by omega
 have ba:Below w1.heap.size w1 (w1.alloc (.cells #[.slice b0 n0 e0,.slice b1 n1 e1,.bool f,.slice b3 n3 e3] 101)):=(Below.refl _ _).alloc (Nat.le_refl _) _;have yo:=Box.new w1 101 #[.slice b0 n0 e0,.slice b1 n1 e1,.bool f,.slice b3 n3 e3];have zo:=yo.lt;have YO:=aa yo;have YR:=aa ((XR.out.below bb zr).below ba (by omega));have YM:=aa ((XM.out.below bb (by omega)).below ba (by omega));have K0:=aa (o0.below ba);have K1:=aa (o1.below ba);have K3:=aa (o3.below ba);have KB:=aa (hA.trans ((bb.mono (by omega:w.heap.size<=W.heap.size)).trans (ba.mono (by omega))));clear yo o0 o1 o3 XM XR bb ba hA q0 q1 q2 q3;obtain ⟨q0,q1,q2,q3⟩:=YM.out.cells4;go_wp2_with fail
 generalize w1.alloc (.cells #[.slice b0 n0 e0,.slice b1 n1 e1,.bool f,.slice b3 n3 e3] 101)=w2 at YO YR YM K0 K1 K3 KB zo q0 q1 q2 q3 ⊢;refine (aW _ E _ _ _ _ _ _ _ _ _ ss cs f bs (h0.below KB.out) (h1.below KB.out) (h3.below KB.out) hw).mono ?_
 rintro e w3 ⟨rfl,b4⟩;have z3:=b4.size;have XO:=aa (YO.out.below b4 (by omega));have XR:=aa (YR.out.below b4 (by omega));have XM:=aa (YM.out.below b4 (by omega));have L0:=aa (K0.out.below b4);have L1:=aa (K1.out.below b4);have L3:=aa (K3.out.below b4);have LB:=aa (KB.out.trans (b4.mono (by have:=KB.out.size;omega)));clear YO YR YM K0 K1 K3 KB b4 q0 q1 q2 q3;obtain ⟨q0,q1,q2,q3⟩:=XM.out.cells4;obtain ⟨x0,x1,x2,x3⟩:=XO.out.cells4;obtain ⟨p0,p1,p2,p3⟩:=XR.out.cells4;have fz:=XR.out.frozen;have hbt:But (w.heap.size+1) (w.heap.size+2) w3 ((((w3.setCell ⟨w.heap.size+1,0,none⟩ (.slice b0 n0 e0)).setCell ⟨w.heap.size+1,1,none⟩ (.slice b1 n1 e1)).setCell ⟨w.heap.size+1,2,none⟩ (.bool f)).setCell ⟨w.heap.size+1,3,none⟩ (.slice b3 n3 e3)):=
  (((But.setCell (by omega) (by omega) _).trans (But.setCell (by omega) (by omega) _)).trans (But.setCell (by omega) (by omega) _)).trans (But.setCell (by omega) (by omega) _)
 have z9:=hbt.size;have FIN:Hid ((bR 171).Own ((((w3.setCell ⟨w.heap.size+1,0,none⟩ (.slice b0 n0 e0)).setCell ⟨w.heap.size+1,1,none⟩ (.slice b1 n1 e1)).setCell ⟨w.heap.size+1,2,none⟩ (.bool f)).setCell ⟨w.heap.size+1,3,none⟩ (.slice b3 n3 e3)) w.heap.size ((((w3.setCell ⟨w.heap.size+1,0,none⟩ (.slice b0 n0 e0)).setCell ⟨w.heap.size+1,1,none⟩ (.slice b1 n1 e1)).setCell ⟨w.heap.size+1,2,none⟩ (.bool f)).setCell ⟨w.heap.size+1,3,none⟩ (.slice b3 n3 e3)).heap.size [.slice b0 n0 e0,.slice b1 n1 e1,.bool f,.slice b3 n3 e3] (ss,cs,f,bs)):=ch (L0.out.but hbt (by omega)) (L1.out.but hbt (by omega)) (L3.out.but hbt (by omega)) (by omega) (by omega) (by omega) (by omega) (by omega) (by omega);have FB:=aa (Below.andBut LB.out hbt (by omega));clear hbt;go_wp2
 refine bodyPost_ret (v:=.agg #[.slice b0 n0 e0,.slice b1 n1 e1,.bool f,.slice b3 n3 e3]) (by simp [results,Tryz.results179,go_sem,p0,p1,p2,p3]) rfl ?_
 exact ⟨_,_,_,rfl,FIN.out,FB.out⟩
theorem ir (w:World) (B:Nat) (x:al) (ms:List ai) (ds:List (Int×List Int)) (fm fd:List Nat) (h:aD w B x ms ds fm fd) (hf:x.vI<=1000) (hM:bM ms):
 Calls Tryz.prog 101 #[.pointer (some ⟨B,0,none⟩)] w fun e w'=>e=.returned (.tuple #[])/\∃fm',aD w' B (aS (x,ms) ms.length).1 (aS (x,ms) ms.length).2 ds fm' fd/\aJ B fm w fm' w':=by
 have hkp:=fun j=>dm (q:=(x,ms)) hM hf j;have HK:=aa hkp;clear hkp;have H0:=aa h;obtain ⟨bm0,bd0,cm0,cd0,X0,hm0,_⟩:=h;have hmx:=(af hm0.rd).2;clear X0 hm0;go_enter Tryz.func101,Tryz.ntmps101
 go_wp2
 go_loopw [2] (fun i wr=>∃(j:Nat) (fm1:List Nat),j<=ms.length/\i=.int .i64 j/\aD wr B (aS (x,ms) j).1 (aS (x,ms) j).2 ds fm1 fd/\aJ B fm w fm1 wr) (fun i _=>ms.length-(intOf i).toNat)
 case atStart=>exact ⟨0,fm,Nat.zero_le _,rfl,H0.out,aJ.refl _ _ _⟩
 obtain ⟨j,fm1,hj,rfl,hA,hMv⟩:=hrel;obtain ⟨hMj,hsj,hlj⟩:=HK.out j;have hfj:=hsj.2.2.2.2.2.2.2.2.2.1;have HS:=aa (io (x,ms) j);generalize hst:aS (x,ms) j=st at hA hMj hsj hlj hfj HS;have HST:=aa hst;clear hst;obtain ⟨y,ns⟩:=st;dsimp only at hA hMj hsj hlj hfj
 have HA:=aa hA;obtain ⟨bm,bd,cm,cd,X,hmm,hdd,hr,r1,r2⟩:=hA;rw [hlj] at X hmm;have X0:=X;unfold aC at X0;obtain ⟨k0,k1,k2,k3,k4,k5,k6,k7,k8,k9,k10,k11,k12⟩:=X0.cells13;by_cases hjn:j<ms.length
 . have i2:(j:Int)<(ms.length:Int):=by omega
   have i1:(0:Int)<=(j:Int):=by omega
   obtain ⟨g,rfl⟩:=bU hmm (by omega);have hdj:ns[j]?=some (ns[j]'(by omega)):=List.getElem?_eq_getElem (by omega);generalize ns[j]'(by omega)=d at hdj;obtain ⟨hgl,a0,a1,a3,c0,c1,c3,ss,cs,f,bs,rfl,q0,q1,q2,q3,_,_,_⟩:=dM hmm hdj;have MV:=aa hMv;clear X X0 hmm hdd hMv;cases f
   . go_wp2_with fail
     refine (pP _ B y ns ds fm1 fd HA.out hfj).mono ?_
     rintro e w1 ⟨rfl,hA1,hMv1⟩;clear k0 k1 k2 k3 k4 k5 k6 k7 k8 k9 k10 k11 k12 q0 q1 q2 q3 HA;cases ho:opB y
     . have HP:Hid (aS (x,ms) (j+1)=(opX y,ns)):=HS.out.trans (qR hdj rfl ho)
       have HB:=aa (MV.out.trans hMv1);have HA1:=aa hA1;clear hA1 hMv1;go_wp2
       go_roundw
       case rel=>exact ⟨j+1,fm1,by omega,by go_num,by rw [HP.out];exact HA1.out,HB.out⟩
       case measure=>simp [intOf];omega
     have HP:Hid (aS (x,ms) (j+1)=(opX y,ns.set j (flM (ss,cs,false,bs)))):=HS.out.trans (oU hdj rfl ho);obtain ⟨bm,bd,cm,cd,X,hmm,hdd,hr,r1,r2⟩:=hA1;obtain ⟨g,rfl⟩:=bU hmm (by omega);obtain ⟨hgl,a0,a1,a3,c0,c1,c3,ss,cs,f,bs,hde,q0,q1,q2,q3,p0,p1,p3⟩:=dM hmm hdj;simp only [Prod.mk.injEq] at hde
     obtain ⟨rfl,rfl,rfl,rfl⟩:=hde;have X0:=X;unfold aC at X0;have x3:=X0.cells13.2.2.2.1;have hwt:=du (hMj j _ hdj) false;dsimp only at hwt
     have zB:=X.lt;have XH:=aa X;have MH:=aa hmm;have DH:=aa hdd;have MV1:=aa hMv1;have R0:=aa p0;have R1:=aa p1;have R3:=aa p3;have hS:w1.drew.cell? ⟨B,3,none⟩=some (.slice (some ⟨g,0,none⟩) ns.length cm)/\w1.drew.cell? ⟨g,j*4,none⟩=some (.slice a0 ss.length c0)/\w1.drew.cell? ⟨g,j*4+1,none⟩=some (.slice a1 cs.length c1)/\w1.drew.cell? ⟨g,j*4+2,none⟩=some (.bool false)/\w1.drew.cell? ⟨g,j*4+3,none⟩=some (.slice a3 bs.length c3):=⟨x3,q0,q1,q2,q3⟩;have i3:(j:Int)<(ns.length:Int):=by omega
     clear X X0 hmm hdd hMv1 p0 p1 p3;go_wp2_with fail
     refine ah.start (S:=fun w'=>w'.cell? ⟨B,3,none⟩=some (.slice (some ⟨g,0,none⟩) ns.length cm)/\w'.cell? ⟨g,j*4,none⟩=some (.slice a0 ss.length c0)/\w'.cell? ⟨g,j*4+1,none⟩=some (.slice a1 cs.length c1)/\w'.cell? ⟨g,j*4+2,none⟩=some (.bool false)/\w'.cell? ⟨g,j*4+3,none⟩=some (.slice a3 bs.length c3)) (k:=14) (by kernel_rfl) ?_
     refine ah.t 0 hS ?_
     refine ah.t 1 hS ?_
     refine ah.t 2 hS ?_
     refine ah.t 3 hS ?_
     refine ah.t 4 hS ?_
     refine ah.t 5 hS ?_
     refine ah.t 6 hS ?_
     refine ah.t 7 hS ?_
     refine ah.t 8 hS ?_
     refine ah.t 9 hS ?_
     refine ah.t 10 hS ?_
     refine ah.t 11 hS ?_
     refine ah.one (i:=12) (by kernel_rfl) rfl (fun K hK=>?_)
     go_simp
     refine (hX _ 171 _ _ _ _ _ _ _ _ _ ss cs false bs R0.out.drew R1.out.drew R3.out.drew (by omega)).mono ?_
     rintro e w2 ⟨u0,u1,u3,rfl,o2,b2'⟩;have b2:Below w1.heap.size w1 w2:=(Below.refl w1.heap.size w1).drew.trans b2';have o2b:(bR 171).Own w2 w1.heap.size w2.heap.size [u0,u1,.bool false,u3] _:=o2;obtain ⟨d0,l0,f0,d1,l1,f1,d3,l3,f3,hv0,hv1,hv3⟩:=bS o2b;subst hv0 hv1 hv3;obtain ⟨fpx,mx,rx⟩:=o2b.mine;obtain ⟨cOld,fz,hgm,fm9,hA9,hMv9⟩:=eu (m:=j) XH.out MH.out DH.out hr r1 r2 b2 (by omega) mx (fun b hb=>(rx b hb).1);obtain ⟨o0,t0⟩:=cOld 0 (by omega);obtain ⟨o1,t1⟩:=cOld 1 (by omega);obtain ⟨o2',t2⟩:=cOld 2 (by omega);obtain ⟨o3,t3⟩:=cOld 3 (by omega);rw [Nat.add_zero] at t0;have HA:=aa hA9;have HMV:=aa ((MV.out.trans MV1.out).trans hMv9);have hS2:w2.cell? ⟨B,3,none⟩=some (.slice (some ⟨g,0,none⟩) ns.length cm)/\w2.cell? ⟨g,j*4,none⟩=some (.slice a0 ss.length c0)/\w2.cell? ⟨g,j*4+1,none⟩=some (.slice a1 cs.length c1)/\w2.cell? ⟨g,j*4+2,none⟩=some (.bool false)/\w2.cell? ⟨g,j*4+3,none⟩=some (.slice a3 bs.length c3):=⟨(b2.cell (p:=⟨B,3,none⟩) zB).trans x3,(b2.cell (p:=⟨g,j*4,none⟩) hgl).trans q0,(b2.cell (p:=⟨g,j*4+1,none⟩) hgl).trans q1,(b2.cell (p:=⟨g,j*4+2,none⟩) hgl).trans q2,(b2.cell (p:=⟨g,j*4+3,none⟩) hgl).trans q3⟩;have gB:¬g=B:=fun e=>r1 (e▸hgm);unfold fi at HA HMV;clear x3 q0 q1 q2 q3 o2 o2b b2 b2' mx rx cOld hA9 hMv9 XH MH DH MV MV1 R0 R1 R3 hwt;go_wp2_with fail
     refine hK.out _ _ (fun _=>hS2) ?_
     clear hK K;refine ah.t 13 hS2 ?_
     refine ah.one (i:=14) (by kernel_rfl) rfl (fun K hK=>?_)
     go_simp
     refine hK.out _ _ (fun h=>absurd rfl h) ?_
     clear hK K;refine ah.done (by kernel_rfl) ?_ _
     clear hS hS2 t0 t1 t2 t3 fz;go_wp2
     go_roundw
     case rel=>exact ⟨j+1,fm9,by omega,by go_num,by rw [HP.out];exact HA.out,HMV.out⟩
     case measure=>simp [intOf];omega
   have HP:Hid (aS (x,ms) (j+1)=(y,ns)):=HS.out.trans (lS hdj rfl);go_wp2
   go_roundw
   case rel=>exact ⟨j+1,fm1,by omega,by go_num,by rw [HP.out];exact HA.out,MV.out⟩
   case measure=>simp [intOf];omega
 have ej:j=ms.length:=by omega
 subst ej;have HMV:=aa hMv;clear X X0 hmm hdd hMv;go_wp2
 refine bodyPost_end (v:=.tuple #[]) (results_none rfl _ _ _) rfl ?_
 exact ⟨rfl,fm1,by rw [HST.out];exact HA.out,HMV.out⟩
end Go.Proofs.YtejeekndbnpmoaaGreat
