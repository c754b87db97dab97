/-
 The state that arrays are drawn through (a cursor, an array behind a pointer that is right), and what each turn of it makes, as contracts of the specification's functions. No condition but that state.
-/
import Derived.Test.YtgjomldcnjjpaaaGreatRowArrsSq47
import Derived.Test.YtgjomldcnjjpaaaGreatRowArrsSq31
import Derived.Test.YtgjomldcnjjpaaaGreatRowArrsSq34
import Derived.Test.YtgjomldcnjjpaaaGreatRowArrsSq43
import Derived.Test.YtgjomldcnjjpaaaGreatRowArrsSq4
import Derived.Test.YtgjomldcnjjpaaaGreatRowArrsSq29

set_option maxRecDepth 100000
set_option maxHeartbeats 8000000
set_option linter.unusedSimpArgs false

namespace Go.Proofs.YtgjomldcnjjpaaaGreat
open Go.RowKit

theorem ug {ds:List aH} {e:aH} {k h i:Nat} (hk:k<=ds.length):(ds.take k++[e]++ds.drop h)[i]?=if i<k then ds[i]? else if i=k then some e else ds[i-k-1+h]?:=by
 have e1:(ds.take k).length=k:=by simp;omega
 have e2:(ds.take k++[e]).length=k+1:=by simp;omega
 by_cases h1:i<k
 . rw [if_pos h1,List.getElem?_append_left (by omega),List.getElem?_append_left (by omega),List.getElem?_take,if_pos h1]
 rw [if_neg h1];by_cases h2:i=k
 . rw [if_pos h2,List.getElem?_append_left (by omega),List.getElem?_append_right (by omega),e1,h2,Nat.sub_self]
   rfl
 rw [if_neg h2,List.getElem?_append_right (by omega),e2,List.getElem?_drop];congr 1
 omega
theorem wK {x:aq} {ms:List ai} {ds:List aH} {t:Int} {ys:List Int} (ha:bf x ms ds=true) (ht:inB t 0 (x.s-1)=true) (hl:(ys.length:Int)=x.n-1) (hw:dg ys=true):ey x (mT ds (t,ys))=true:=by
 have hA:=qE ha;have he:=(bD.1 ha).2.2.2.1;obtain ⟨k,r,hp⟩:=xT hA t;rw [xS hA hp];rw [lf] at he ⊢;obtain ⟨h1,h2,h3,h4⟩:=hp;have hkh:k<=(if r=true then k+1 else k):=by split<;>omega
 have hgt:∀(i:Nat) (e:aH),(if r=true then k+1 else k)<=i->ds[i]?=some e->t<e.1:=fun i e hi hd=>by
  rcases h4 with ⟨rfl,d,hkd,hdt⟩|⟨rfl,hn⟩
  . rw [if_pos rfl] at hi
    have:=he.2 k i d e (by omega) hkd hd;omega
  rw [if_neg (by simp)] at hi;have h5:=h3 i e hi hd;by_cases hik:i=k
  . subst hik
    have:=hn e hd;omega
  have hkl:k<ds.length:=by have:=(List.getElem?_eq_some_iff.1 hd).1;omega
  have hkk:=List.getElem?_eq_getElem hkl;have:=he.2 k i _ e (by omega) hkk hd;have:=h3 k _ (Nat.le_refl _) hkk;omega
 generalize (if r=true then k+1 else k)=h at hkh hgt ⊢;constructor
 . intro i e hd
   rw [ug h1] at hd;by_cases c1:i<k
   . rw [if_pos c1] at hd
     exact he.1 i e hd
   rw [if_neg c1] at hd;by_cases c2:i=k
   . rw [if_pos c2] at hd
     cases hd;exact ⟨ht,hl,hw⟩
   rw [if_neg c2] at hd;exact he.1 _ e hd
 intro i j e e' hij hi hj;rw [ug h1] at hi hj;by_cases c1:i<k
 . rw [if_pos c1] at hi
   by_cases d1:j<k
   . rw [if_pos d1] at hj
     exact he.2 i j e e' hij hi hj
   rw [if_neg d1] at hj;by_cases d2:j=k
   . rw [if_pos d2] at hj
     cases hj;exact h2 i e c1 hi
   rw [if_neg d2] at hj;exact he.2 i _ e e' (by omega) hi hj
 rw [if_neg c1] at hi;rw [if_neg (by omega),if_neg (by omega)] at hj;by_cases c2:i=k
 . rw [if_pos c2] at hi
   cases hi;exact hgt _ e' (by omega) hj
 rw [if_neg c2] at hi;exact he.2 _ _ e e' (by omega) hi hj
theorem wL {a b:Int} (ha:isW a=true) (hb:isW b=true):isW (bits BinOp.xor IntKind.i64 a b)=true:=by
 unfold isW at ha hb ⊢;simp only [Bool.and_eq_true,decide_eq_true_eq] at ha hb ⊢
 rw [qB];have h1:(bv a).toNat<2 ^ 16:=by unfold bv;rw [BitVec.toNat_ofInt];omega
 have h2:(bv b).toNat<2 ^ 16:=by unfold bv;rw [BitVec.toNat_ofInt];omega
 have h3:(bv a ^^^ bv b).toNat<2 ^ 16:=by rw [BitVec.toNat_xor];exact Nat.xor_lt_two_pow h1 h2
 unfold oZ;rw [IntKind.wrap_i64];omega
theorem oF {l:List Int}:dg l=true ↔ ∀(i:Nat) (x:Int),l[i]?=some x->isW x=true:=by
 unfold dg;rw [List.all_eq_true];exact ⟨fun h i x hx=>h x (List.mem_of_getElem? hx),fun h x hx=>by obtain ⟨i,hi⟩:=List.mem_iff_getElem?.1 hx;exact h i x hi⟩
theorem lS {l:List Int} (h:dg l=true) (i:Nat):isW (l.getD i 0)=true:=by
 rw [List.getD_eq_getElem?_getD];cases hi:l[i]? with
 | none=>rfl
 | some x=>exact oF.1 h i x hi
theorem sr {l:List Int} {i:Nat} {n:Int} (h:dg l=true) (hn:isW n=true):dg (l.set i n)=true:=by
 rw [oF];intro j x hx;by_cases hij:i=j
 . subst hij
   have hl:i<l.length:=by have:=(List.getElem?_eq_some_iff.1 hx).1;simpa using this
   rw [List.getElem?_set_self hl] at hx;cases hx;exact hn
 rw [List.getElem?_set_ne hij] at hx;exact oF.1 h j x hx
theorem su {α:Type} {l:List α} {f:α->Int} (h:∀a∈l,isW (f a)=true):dg (l.map f)=true:=by
 unfold dg;rw [List.all_eq_true];intro x hx;obtain ⟨a,ha,rfl⟩:=List.mem_map.1 hx;exact h a ha
theorem uX {ss:List (List Int)} {cs:List (Int×List Int)} {f:Bool} {bs:List Int} {n:Int}:dg (bp ss cs f bs n)=true:=by
 unfold bp;split
 . rename_i h
   unfold aV at h;simp only [Bool.and_eq_true] at h
   obtain ⟨h1,h2,_,_⟩:=(eB ss cs bs).1 h.1;have hs:∀zs:List Int,cR zs=true->dg zs=true:=fun zs hz=>by unfold cR at hz;simp only [Bool.and_eq_true] at hz;exact hz.2
   cases hl:cB cs n with
   | some zs=>
    have:=h2 _ (lr hl);unfold wrB at this;simp only [Bool.and_eq_true] at this
    exact hs _ this.2
   | none=>
    show dg (iw ss n)=true
    unfold iw;rw [List.getD_eq_getElem?_getD];cases hi:ss[n.toNat]? with
    | none=>rfl
    | some zs=>exact hs _ (h1 zs (List.mem_of_getElem? hi))
 rfl
theorem tw (x:aq) (ms:List ai) (m s:Int):isW (dl x ms m s)=true:=by
 unfold dl;split
 . exact lS uX 0
 rfl
theorem jX {zs:List Int} (h:dg zs=true) (k:Int):∀j,isW (dO zs k j)=true
 | 0=>rfl
 | j+1=>by
  rw [jJ];split
  . exact jX h k j
  exact wL (jX h k j) (lS h j)
theorem sx (x:aq) (ms:List ai) (s:Int):dg (dc x ms s)=true:=by
 have hw:dg (cJ x ms s x.n.toNat)=true:=su fun i _=>tw x ms _ s;unfold dc;split
 . exact hw
 . exact sr hw (jX hw _ _)
 rfl
theorem tz (x:aq) (ms:List ai) (s:Int):dg (gd x ms s)=true:=by
 unfold gd;split
 . exact su fun i _=>lS (sx x ms s) _
 rfl
theorem uY {x:aq} {ms:List ai} {ds:List aH} (ha:bf x ms ds=true) (s:Int):dg (fO x ms ds s)=true:=by
 have he:=lf.1 (bD.1 ha).2.2.2.1;unfold fO;split
 . split
   . rfl
   exact tz x ms s
 rename_i hn
 rcases iA ds s with hat|⟨j,d,hat,hdj,_⟩
 . exact absurd hat hn
 rw [hat,Int.toNat_natCast,List.getD_eq_getElem?_getD,hdj];exact (he.1 j d hdj).2.2
theorem wM {G:Int} {q:aq×List ai} {ds:List aH} (h:cG G q ds) {b n:Int} (hb:bU q.1.n q.1.s b=true) (hn:isW n=true):cG G q (pY q.1 q.2 ds b n):=by
 obtain ⟨ha,hi,hbr,h1,h2⟩:=h;refine ⟨?_,hi,hbr,h1,h2⟩
 unfold pY;split
 . rename_i hk
   obtain ⟨p1,p2,p3,p4,p5,p6⟩:=bD.1 ha;obtain ⟨s1,s2,i1,i2⟩:=ki p1 hb;have hin:inB (aO q.1.n q.1.s b) 0 (q.1.s-1)=true:=aG.2 ⟨s1,s2⟩;refine bD.2 ⟨p1,p2,p3,wK ha hin ?_ ?_,p5,p6⟩
   . rw [List.length_set];exact nJ ha hk
   exact sr (uY ha _) hn
 exact ha
theorem qj {G:Int} {q:aq×List ai} {ds:List aH} (h:cG G q ds) (hG:G<59000):cG (G+1) (ge q) ds:=by
 obtain ⟨ha,hi,hb,h1,h2⟩:=h;have k:=oB (q:=q) hi;obtain ⟨p1,p2,p3,p4,p5,p6⟩:=bD.1 ha;have p6':=gl.1 p6;refine ⟨bD.2 ?_,k.idle hi,?_,?_,?_⟩
 . rw [k.1]
   refine ⟨p1,p2,iH p3 k.2.1 (k.2.2 (oD p3)),p4,p5,gl.2 ?_⟩
   show (0<=q.1.tail/\q.1.tail<=60000)/\(q.1.tail<=q.1.seq/\q.1.seq<=60000)/\q.1.seq<=q.1.tail+4/\(0<=q.1.gen+1/\q.1.gen+1<=60000)/\-1<=q.1.xY/\q.1.xY<=1000
   omega
 . rw [k.1];exact hb
 . rw [k.1];show q.1.gen+1<=G+1;omega
 rw [k.1];show q.1.seq<=G+1;omega
theorem uZ {G:Int} {q:aq×List ai} {ds:List aH} (h:cG G q ds) (hG:G<59000) (hl:q.1.lost=-1) {m:Nat} (hm:(m:Int)<q.1.n):cG (G+1) (gU q m) ds:=by
 obtain ⟨ha,hi,hb,h1,h2⟩:=h;obtain ⟨p1,p2,p3,p4,p5,p6⟩:=bD.1 ha;have g1:=aB.1 p1;have hx:ep q.1 (m:Int)={q.1 with lost:=(m:Int),xW:=0}:=by unfold ep;rw [if_pos (.inl hl)]
 have h3:=eg.1 p3;have hml:m<q.2.length:=by have:=h3.2;omega
 have hmd:=List.getElem?_eq_getElem hml;have hg:q.2.getD m rX=q.2[m]:=iM hmd;obtain ⟨a1,a2,_⟩:=h3.1 m _ hmd;have hgood:cG G (ep q.1 (m:Int),q.2.set m (jm (q.2.getD m rX))) ds:=by
  rw [hx,hg];refine ⟨bD.2 ⟨p1,p2,?_,p4,?_,p6⟩,hi,hb,h1,h2⟩
  . refine oC p3 rfl rfl (uW a1) a2 (fun _=>.inl rfl) (fun i e hne he hf=>?_)
    rcases (h3.1 i e he).2.2 hf with h|h
    . omega
    rw [hb] at h;cases h
  unfold dU;simp only [Bool.and_eq_true,aG,Bool.or_eq_true,Bool.not_eq_true',decide_eq_true_eq,decide_eq_false_iff_not]
  refine ⟨⟨by omega,by omega⟩,⟨by omega,by omega⟩,.inr trivial⟩
 have hc:(!(ep q.1 (m:Int)).down&&!(ep q.1 (m:Int)).xX&&decide ((ep q.1 (m:Int)).gen<60000))=true:=by
  rw [hx];show (!q.1.down&&!q.1.xX&&decide (q.1.gen<60000))=true
  rw [hi.1,hb];simp
  omega
 unfold gU;rw [if_pos hc];exact qj hgood hG
theorem tB {G:Int} {q:aq×List ai} {ds:List aH} (h:cG G q ds) (hG:G<59000) (hl:0<=q.1.lost):cG (G+1) (fM q) ds:=by
 obtain ⟨ha,hi,hb,h1,h2⟩:=h;obtain ⟨p1,p2,p3,p4,p5,p6⟩:=bD.1 ha;have g1:=aB.1 p1;have h3:=eg.1 p3;have hlt:(q.1.lost.toNat:Int)=q.1.lost:=by omega
 have hlen:((bC (6+q.1.s)).length:Int)=6+q.1.s:=by unfold bC;rw [if_pos ⟨by omega,by omega⟩,List.length_replicate];omega
 have hgood:cG G ({q.1 with xW:=0},q.2.set q.1.lost.toNat (lR q.1.s)) ds:=by
  refine ⟨bD.2 ⟨p1,p2,?_,p4,?_,p6⟩,hi,hb,h1,h2⟩
  . refine oC p3 rfl rfl (oe (by omega) (by omega)) hlen (fun h=>by cases h) (fun i e hne he hf=>?_)
    exact (h3.1 i e he).2.2 hf
  unfold dU at p5 ⊢;simp only [Bool.and_eq_true,aG,Bool.or_eq_true,Bool.not_eq_true',decide_eq_true_eq,decide_eq_false_iff_not] at p5 ⊢
  exact ⟨p5.1,⟨by omega,by omega⟩,.inr trivial⟩
 unfold fM;exact qj hgood hG
theorem ve {G:Int} {q:aq×List ai} {ds:List aH} (h:cG G q ds) (hl:0<=q.1.lost) (hbs:q.1.xW<q.1.s):cG G (jo q) ds:=by
 obtain ⟨ha,hi,hb,h1,h2⟩:=h;have h0:cG G q ds:=⟨ha,hi,hb,h1,h2⟩;obtain ⟨p1,p2,p3,p4,p5,p6⟩:=bD.1 ha;unfold jo;split
 . have k:fW q (dp q):=jw hi _ _ _
   rw [if_neg (by rw [(k.idle hi).1];simp)];have hm:=iH p3 k.2.1 (k.2.2 (oD p3));rw [show dp q=((dp q).1,(dp q).2) from rfl,k.1];refine ⟨bD.2 ⟨p1,p2,hm,p4,?_,p6⟩,hi,hb,h1,h2⟩
   unfold dU at p5 ⊢;simp only [Bool.and_eq_true,aG,Bool.or_eq_true,Bool.not_eq_true',decide_eq_true_eq,decide_eq_false_iff_not] at p5 ⊢
   exact ⟨p5.1,⟨by omega,by omega⟩,.inl (by omega)⟩
 exact h0
def St6 (w:World) (g:Nat) (a:Option Addr) (lb cb:Nat) (zs:List Int) (N B:Nat) (G:Int) (q:aq×List ai) (ds:List aH) (fm fd:List Nat):Prop:=
 br w g a lb cb zs/\aK w B q.1 q.2 ds fm fd/\cG G q ds/\(g<N/\N<=w.heap.size/\N<=B)/\(∀b∈fm,N<=b)/\∀b∈fd,N<=b
def At6 (w:World) (g:Nat) (a:Option Addr) (lb cb:Nat) (zs:List Int) (N B:Nat) (G:Int):Prop:=∃q ds fm fd,St6 w g a lb cb zs N B G q ds fm fd
theorem cG.more {G G':Int} {q:aq×List ai} {ds:List aH} (h:cG G q ds) (hG:G<=G'):cG G' q ds:=⟨h.1,h.2.1,h.2.2.1,Int.le_trans h.2.2.2.1 hG,Int.le_trans h.2.2.2.2 hG⟩
theorem St6.more {w:World} {g:Nat} {a:Option Addr} {lb cb:Nat} {zs:List Int} {N B:Nat} {G G':Int} {q:aq×List ai} {ds:List aH} {fm fd:List Nat} (h:St6 w g a lb cb zs N B G q ds fm fd) (hG:G<=G'):St6 w g a lb cb zs N B G' q ds fm fd:=⟨h.1,h.2.1,h.2.2.1.more hG,h.2.2.2⟩
theorem St6.draw {w w':World} {g:Nat} {a:Option Addr} {lb cb:Nat} {zs:List Int} {N B:Nat} {G:Int} {q:aq×List ai} {ds:List aH} {fm fd:List Nat} (h:St6 w g a lb cb zs N B G q ds fm fd) (hd:br w' g a lb cb zs) (hb:But g (g+1) w w'):St6 w' g a lb cb zs N B G q ds fm fd:=by
 obtain ⟨_,h2,h3,h4,h5,h6⟩:=h;refine ⟨hd,h2.kept (fq:=[g]) ⟨hb.os,hb.tape,hb.output,hb.size,fun k hk hf=>hb.block k hk (by simp at hf;omega)⟩ (by simp;omega) (fun b hm=>?_) (fun b hm=>?_),h3,⟨h4.1,Nat.le_trans h4.2.1 hb.size,h4.2.2⟩,h5,h6⟩
 . have:=h5 b hm;simp;omega
 have:=h6 b hm;simp;omega
theorem St6.below {w w':World} {g:Nat} {a:Option Addr} {lb cb:Nat} {zs:List Int} {N B:Nat} {G:Int} {q:aq×List ai} {ds:List aH} {fm fd:List Nat} (h:St6 w g a lb cb zs N B G q ds fm fd) (hb:Below w.heap.size w w'):St6 w' g a lb cb zs N B G q ds fm fd:=
 ⟨h.1.lower hb h.1.lt,h.2.1.below hb,h.2.2.1,⟨h.2.2.2.1.1,Nat.le_trans h.2.2.2.1.2.1 hb.size,h.2.2.2.1.2.2⟩,h.2.2.2.2⟩
theorem But.fr {g N:Nat} {w w':World} (hb:But g (g+1) w w') (hN:N<=w.heap.size):Fr N g w w':=⟨hb.os,hb.tape,hb.output,hb.size,fun k hk hne=>hb.block k (by omega) (by omega)⟩
theorem St6.turned {w w':World} {g:Nat} {a:Option Addr} {lb cb:Nat} {zs:List Int} {N B:Nat} {G G':Int} {q q':aq×List ai} {ds ds':List aH} {fm fd fm' fd' fq:List Nat} (h:St6 w g a lb cb zs N B G q ds fm fd) (ht:aA fq w w') (hq:∀b∈fq,N<=b) (hA:aK w' B q'.1 q'.2 ds' fm' fd') (hG:cG G' q' ds') (hm:∀b∈fm',b∈fm∨b∈fd∨w.heap.size<=b) (hd:∀b∈fd',b∈fm∨b∈fd∨w.heap.size<=b):
 At6 w' g a lb cb zs N B G'/\Fr N g w w':=by
 obtain ⟨h1,h2,h3,h4,h5,h6⟩:=h;have hgl:=h1.lt;have hb:Below (g+1) w w':=⟨ht.os,ht.tape,ht.output,ht.size,fun k hk=>ht.block k (by omega) (fun hm=>by have:=hq k hm;omega)⟩;have hin:∀b,b∈fm∨b∈fd∨w.heap.size<=b->N<=b:=fun b hb=>by
  rcases hb with h|h|h
  . exact h5 b h
  . exact h6 b h
  omega
 exact ⟨⟨q',ds',fm',fd',h1.lower hb (by omega),hA,hG,⟨h4.1,Nat.le_trans h4.2.1 ht.size,h4.2.2⟩,fun b hb=>hin b (hm b hb),fun b hb=>hin b (hd b hb)⟩,Fr.ofTurned ht h4.2.1 hq⟩
theorem lh {G:Int} {q:aq×List ai} {ds:List aH} (h:cG G q ds):bh q.2 ds<=20000/\ds.length<=101:=by
 obtain ⟨p1,p2,p3,p4,p5,p6⟩:=bD.1 h.1;have g1:=aB.1 p1;have hl:=xz (qE h.1);have h1:=rY (oD p3) (by have:=(eg.1 p3).2;omega);have h2:=dY (ds.map fun x=>x.2.length) 4 (fun y hy=>by
  obtain ⟨d,hd,rfl⟩:=List.mem_map.1 hy;obtain ⟨i,hi⟩:=List.mem_iff_getElem?.1 hd;have:=((lf.1 p4).1 i d hi).2.1;omega)
 rw [List.length_map] at h2;have h3:aX ds<=101+404:=by
  unfold aX;exact Nat.add_le_add hl (Nat.le_trans h2 (by omega))
 refine ⟨?_,hl⟩
 unfold bh;omega
theorem tE {G:Int} {q:aq×List ai} {ds:List aH} (h:cG G q ds) {m:Nat} {ss:List (List Int)} {cs:List (Int×List Int)} {f:Bool} {bs:List Int} (hd:q.2[m]?=some (ss,cs,f,bs)) (n:Int):cG G (q.1,q.2.set m (ss,cs,f,jh ss cs bs n)) ds:=by
 obtain ⟨ha,hi,hb,h1,h2⟩:=h;obtain ⟨p1,p2,p3,p4,p5,p6⟩:=bD.1 ha;have h3:=eg.1 p3;refine ⟨bD.2 ⟨p1,p2,oC p3 rfl rfl ?_ (h3.1 m _ hd).2.1 (fun hf=>(h3.1 m _ hd).2.2 hf) (fun i e _ he hf=>(h3.1 i e he).2.2 hf),p4,p5,p6⟩,hi,hb,h1,h2⟩
 show bF ss cs (jh ss cs bs n)=true
 unfold jh;split
 . rename_i hs
   exact nZ hs
 exact (h3.1 m _ hd).1
theorem qk {N B:Nat} {fm fd:List Nat} (h1:N<=B) (h2:∀b∈fm,N<=b) (h3:∀b∈fd,N<=b):∀b∈B :: (fm++fd),N<=b:=fun b hb=>by
 simp only [List.mem_cons,List.mem_append] at hb
 rcases hb with h|h|h
 . omega
 . exact h2 b h
 exact h3 b h
theorem set6 {w:World} {g:Nat} {a:Option Addr} {lb cb:Nat} {zs:List Int} {N B:Nat} {G:Int} {q:aq×List ai} {ds:List aH} {fm fd:List Nat} (h:St6 w g a lb cb zs N B G q ds fm fd) {b n:Int} (hb:bU q.1.n q.1.s b=true) (hn:isW n=true):
 Calls Tryz.prog 109 #[.pointer (some ⟨B,0,none⟩),.int .i64 b,.int .i64 n] w fun e w'=>∃v,e=.returned (.int .i64 v)/\At6 w' g a lb cb zs N B G/\Fr N g w w':=by
 have hw:=lh h.2.2.1;refine (uG w B q.1 q.2 ds fm fd h.2.1 h.2.2.1.1 (by omega) (by omega) b n hb).mono ?_
 rintro e w' ⟨rfl,fd',hA,hT,hN⟩;refine ⟨_,rfl,h.turned hT (fun b hb=>?_) (q':=q) hA (wM h.2.2.1 hb hn) (fun b hb=>.inl hb) (fun b hb=>(hN b hb).elim (fun h=>.inr (.inl h)) (fun h=>.inr (.inr h)))⟩
 rcases List.mem_cons.1 hb with e|hb
 . have:=h.2.2.2.1.2.2;omega
 exact h.2.2.2.2.2 b hb
theorem tF {w:World} {g:Nat} {a:Option Addr} {lb cb:Nat} {zs:List Int} {N B:Nat} {G:Int} {q:aq×List ai} {ds:List aH} {fm fd:List Nat} (h:St6 w g a lb cb zs N B G q ds fm fd) (t:Int):
 Calls Tryz.prog 111 #[.pointer (some ⟨B,0,none⟩),.int .i64 t] w fun e w'=>∃v,e=.returned (.int .i64 v)/\At6 w' g a lb cb zs N B (G+1)/\Fr N g w w':=by
 have hw:=lh h.2.2.1;refine (mG w B q.1 q.2 ds fm fd h.2.1 (by omega) t).mono ?_
 rintro e w' ⟨rfl,fm',fd',hA,hT,hN⟩;exact ⟨_,rfl,h.turned hT (qk h.2.2.2.1.2.2 h.2.2.2.2.1 h.2.2.2.2.2) hA (oE h.2.2.1 t) (fun b hb=>hN b (.inl hb)) (fun b hb=>hN b (.inr hb))⟩
theorem all6 {w:World} {g:Nat} {a:Option Addr} {lb cb:Nat} {zs:List Int} {N B:Nat} {G:Int} {q:aq×List ai} {ds:List aH} {fm fd:List Nat} (h:St6 w g a lb cb zs N B G q ds fm fd):
 Calls Tryz.prog 112 #[.pointer (some ⟨B,0,none⟩)] w fun e w'=>∃v,e=.returned (.int .i64 v)/\At6 w' g a lb cb zs N B (G+101)/\Fr N g w w':=by
 have hw:=lh h.2.2.1;refine (vf w B q.1 q.2 ds fm fd h.2.1 (by omega)).mono ?_
 rintro e w' ⟨rfl,fm',fd',hA,hT,hN⟩;have hG:cG (G+101) (xZ (q.1,q.2) ds).1 (xZ (q.1,q.2) ds).2.1:=(qh ds h.2.2.1).more (by omega);exact ⟨_,rfl,h.turned hT (qk h.2.2.2.1.2.2 h.2.2.2.2.1 h.2.2.2.2.2) hA hG (fun b hb=>hN b (.inl hb)) (fun b hb=>hN b (.inr hb))⟩
theorem oH {w w':World} {g:Nat} {a:Option Addr} {lb cb:Nat} {zs:List Int} {N B:Nat} {G G':Int} {q q':aq×List ai} {ds:List aH} {fm fd fm':List Nat} (h:St6 w g a lb cb zs N B G q ds fm fd) (hA:aK w' B q'.1 q'.2 ds fm' fd) (hM:aT B fm w fm' w') (hG:cG G' q' ds):At6 w' g a lb cb zs N B G'/\Fr N g w w':=
 h.turned hM.1 (fun b hb=>by
  rcases List.mem_cons.1 hb with e|hb
  . have:=h.2.2.2.1.2.2;omega
  exact h.2.2.2.2.1 b hb) hA hG (fun b hb=>(hM.2 b hb).elim .inl (fun h=>.inr (.inr h))) (fun b hb=>.inr (.inl hb))
theorem fS {G:Int} {q:aq×List ai} {ds:List aH} (h:cG G q ds):q.1.xY<=1000/\dh q.2/\0<=q.1.gen/\q.1.gen<=60000/\bL q.1.n q.1.s=true/\(q.2.length:Int)=q.1.n/\q.1.lost<=q.1.n-1/\0<=q.1.xW/\q.1.xW<=q.1.s:=by
 obtain ⟨p1,p2,p3,p4,p5,p6⟩:=bD.1 h.1;have h6:=gl.1 p6;unfold dU at p5;simp only [Bool.and_eq_true,aG] at p5
 exact ⟨by omega,oD p3,by omega,by omega,p1,(eg.1 p3).2,by omega,by omega,by omega⟩
theorem qV {G:Int} {q:aq×List ai} {ds:List aH} (h:cG G q ds):-1<=q.1.lost:=by
 obtain ⟨p1,p2,p3,p4,p5,p6⟩:=bD.1 h.1;unfold dU at p5;simp only [Bool.and_eq_true,aG] at p5
 omega
theorem check6 {w:World} {g:Nat} {a:Option Addr} {lb cb:Nat} {zs:List Int} {N B:Nat} {G:Int} {q:aq×List ai} {ds:List aH} {fm fd:List Nat} (h:St6 w g a lb cb zs N B G q ds fm fd) (hG:G<59000):
 Calls Tryz.prog 117 #[.pointer (some ⟨B,0,none⟩)] w fun e w'=>e=.returned (.tuple #[])/\At6 w' g a lb cb zs N B (G+1)/\Fr N g w w':=by
 obtain ⟨n1,n2,n3,n4,n5,n6,n7,n8,n9⟩:=fS h.2.2.1;refine (jk w B q.1 q.2 ds fm fd h.2.1 n1 n2 n3 n4).mono ?_
 rintro e w' ⟨rfl,fm',hA,hM⟩;exact ⟨rfl,oH h hA hM (tv h.2.2.1 hG)⟩
theorem fail6 {w:World} {g:Nat} {a:Option Addr} {lb cb:Nat} {zs:List Int} {N B:Nat} {G:Int} {q:aq×List ai} {ds:List aH} {fm fd:List Nat} (h:St6 w g a lb cb zs N B G q ds fm fd) (hG:G<59000) (hl:q.1.lost=-1) {m:Int} (h0:0<=m) (h1:m<q.1.n):
 Calls Tryz.prog 114 #[.pointer (some ⟨B,0,none⟩),.int .i64 m] w fun e w'=>e=.returned (.tuple #[])/\At6 w' g a lb cb zs N B (G+1)/\Fr N g w w':=by
 obtain ⟨n1,n2,n3,n4,n5,n6,n7,n8,n9⟩:=fS h.2.2.1;obtain ⟨k,rfl⟩:=Int.eq_ofNat_of_zero_le h0;refine (sl w B q.1 q.2 ds fm fd h.2.1 n1 n2 n3 n4 k (by omega)).mono ?_
 rintro e w' ⟨rfl,fm',hA,hM⟩;exact ⟨rfl,oH h hA hM (uZ h.2.2.1 hG hl h1)⟩
theorem spare6 {w:World} {g:Nat} {a:Option Addr} {lb cb:Nat} {zs:List Int} {N B:Nat} {G:Int} {q:aq×List ai} {ds:List aH} {fm fd:List Nat} (h:St6 w g a lb cb zs N B G q ds fm fd) (hG:G<59000) (hl:0<=q.1.lost):
 Calls Tryz.prog 115 #[.pointer (some ⟨B,0,none⟩)] w fun e w'=>∃v,e=.returned (.int .i64 v)/\At6 w' g a lb cb zs N B (G+1)/\Fr N g w w':=by
 obtain ⟨n1,n2,n3,n4,n5,n6,n7,n8,n9⟩:=fS h.2.2.1;refine (qU w B q.1 q.2 ds fm fd h.2.1 n1 n2 n3 n4 n5 q.1.lost.toNat (by omega) (by omega)).mono ?_
 rintro e w' ⟨rfl,fm',hA,hM⟩;exact ⟨_,rfl,oH h hA hM (tB h.2.2.1 hG hl)⟩
theorem step6 {w:World} {g:Nat} {a:Option Addr} {lb cb:Nat} {zs:List Int} {N B:Nat} {G:Int} {q:aq×List ai} {ds:List aH} {fm fd:List Nat} (h:St6 w g a lb cb zs N B G q ds fm fd) (hl:0<=q.1.lost) (hb:q.1.xW<q.1.s):
 Calls Tryz.prog 116 #[.pointer (some ⟨B,0,none⟩)] w fun e w'=>∃v,e=.returned (.int .i64 v)/\At6 w' g a lb cb zs N B G/\Fr N g w w':=by
 obtain ⟨n1,n2,n3,n4,n5,n6,n7,n8,n9⟩:=fS h.2.2.1;have hw:=(lh h.2.2.1).1;have hs:=(aB.1 n5).2.2.2;refine (sp w B q.1 q.2 ds fm fd h.2.1 n1 n2 n5 (by unfold bh at hw;omega) q.1.lost.toNat (by omega) (by omega) (by omega) (by omega)).mono ?_
 rintro e w' ⟨rfl,fm',hA,hM⟩;exact ⟨_,rfl,oH h hA hM (ve h.2.2.1 hl hb)⟩
end Go.Proofs.YtgjomldcnjjpaaaGreat
