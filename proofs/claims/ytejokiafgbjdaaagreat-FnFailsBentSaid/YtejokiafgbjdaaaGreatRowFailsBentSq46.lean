/-
 The state that arrays are drawn through (a cursor, an array behind a pointer that is right), and what each turn of it makes, as contracts of the specification's functions. No condition but that state.
-/
import Derived.Test.YtejokiafgbjdaaaGreatRowFailsBentSq45
import Derived.Test.YtejokiafgbjdaaaGreatRowFailsBentSq31
import Derived.Test.YtejokiafgbjdaaaGreatRowFailsBentSq40
import Derived.Test.YtejokiafgbjdaaaGreatRowFailsBentSq7
import Derived.Test.YtejokiafgbjdaaaGreatRowFailsBentSq24

set_option maxRecDepth 100000
set_option maxHeartbeats 8000000
set_option linter.unusedSimpArgs false

namespace Go.Proofs.YtejokiafgbjdaaaGreat
open Go.RowKit

theorem rH {ds:List aE} {e:aE} {k h i:Nat} (hk:k<=ds.length):(ds.take k++[e]++ds.drop h)[i]?=if i<k then ds[i]? else if i=k then some e else ds[i-k-1+h]?:=by
 have e1:(ds.take k).length=k:=by simp;omega
 have e2:(ds.take k++[e]).length=k+1:=by simp;omega
 by_cases h1:i<k
 . rw [if_pos h1,List.getElem?_append_left (by omega),List.getElem?_append_left (by omega),List.getElem?_take,if_pos h1]
 rw [if_neg h1];by_cases h2:i=k
 . rw [if_pos h2,List.getElem?_append_left (by omega),List.getElem?_append_right (by omega),e1,h2,Nat.sub_self]
   rfl
 rw [if_neg h2,List.getElem?_append_right (by omega),e2,List.getElem?_drop];congr 1
 omega
theorem tF {x:al} {ms:List ai} {ds:List aE} {t:Int} {ys:List Int} (ha:aX x ms ds=true) (ht:inB t 0 (x.s-1)=true) (hl:(ys.length:Int)=x.n-1) (hw:cE ys=true):dU x (kP ds (t,ys))=true:=by
 have hA:=rf ha;have he:=(aS.1 ha).2.2.2.1;obtain ⟨k,r,hp⟩:=uw hA t;rw [uv hA hp];rw [jx] at he ⊢;obtain ⟨h1,h2,h3,h4⟩:=hp;have hkh:k<=(if r=true then k+1 else k):=by split<;>omega
 have hgt:∀(i:Nat) (e:aE),(if r=true then k+1 else k)<=i->ds[i]?=some e->t<e.1:=fun i e hi hd=>by
  rcases h4 with ⟨rfl,d,hkd,hdt⟩|⟨rfl,hn⟩
  . rw [if_pos rfl] at hi
    have:=he.2 k i d e (by omega) hkd hd;omega
  rw [if_neg (by simp)] at hi;have h5:=h3 i e hi hd;by_cases hik:i=k
  . subst hik
    have:=hn e hd;omega
  have hkl:k<ds.length:=by have:=(List.getElem?_eq_some_iff.1 hd).1;omega
  have hkk:=List.getElem?_eq_getElem hkl;have:=he.2 k i _ e (by omega) hkk hd;have:=h3 k _ (Nat.le_refl _) hkk;omega
 generalize (if r=true then k+1 else k)=h at hkh hgt ⊢;constructor
 . intro i e hd
   rw [rH h1] at hd;by_cases c1:i<k
   . rw [if_pos c1] at hd
     exact he.1 i e hd
   rw [if_neg c1] at hd;by_cases c2:i=k
   . rw [if_pos c2] at hd
     cases hd;exact ⟨ht,hl,hw⟩
   rw [if_neg c2] at hd;exact he.1 _ e hd
 intro i j e e' hij hi hj;rw [rH h1] at hi hj;by_cases c1:i<k
 . rw [if_pos c1] at hi
   by_cases d1:j<k
   . rw [if_pos d1] at hj
     exact he.2 i j e e' hij hi hj
   rw [if_neg d1] at hj;by_cases d2:j=k
   . rw [if_pos d2] at hj
     cases hj;exact h2 i e c1 hi
   rw [if_neg d2] at hj;exact he.2 i _ e e' (by omega) hi hj
 rw [if_neg c1] at hi;rw [if_neg (by omega),if_neg (by omega)] at hj;by_cases c2:i=k
 . rw [if_pos c2] at hi
   cases hi;exact hgt _ e' (by omega) hj
 rw [if_neg c2] at hi;exact he.2 _ _ e e' (by omega) hi hj
theorem tG {a b:Int} (ha:isW a=true) (hb:isW b=true):isW (bits BinOp.xor IntKind.i64 a b)=true:=by
 unfold isW at ha hb ⊢;simp only [Bool.and_eq_true,decide_eq_true_eq] at ha hb ⊢
 rw [xor_bv];have h1:(bv a).toNat<2 ^ 16:=by unfold bv;rw [BitVec.toNat_ofInt];omega
 have h2:(bv b).toNat<2 ^ 16:=by unfold bv;rw [BitVec.toNat_ofInt];omega
 have h3:(bv a ^^^ bv b).toNat<2 ^ 16:=by rw [BitVec.toNat_xor];exact Nat.xor_lt_two_pow h1 h2
 unfold ofBv;rw [IntKind.wrap_i64];omega
theorem mn {l:List Int}:cE l=true ↔ ∀(i:Nat) (x:Int),l[i]?=some x->isW x=true:=by
 unfold cE;rw [List.all_eq_true];exact ⟨fun h i x hx=>h x (List.mem_of_getElem? hx),fun h x hx=>by obtain ⟨i,hi⟩:=List.mem_iff_getElem?.1 hx;exact h i x hi⟩
theorem jU {l:List Int} (h:cE l=true) (i:Nat):isW (l.getD i 0)=true:=by
 rw [List.getD_eq_getElem?_getD];cases hi:l[i]? with
 | none=>rfl
 | some x=>exact mn.1 h i x hi
theorem pG {l:List Int} {i:Nat} {n:Int} (h:cE l=true) (hn:isW n=true):cE (l.set i n)=true:=by
 rw [mn];intro j x hx;by_cases hij:i=j
 . subst hij
   have hl:i<l.length:=by have:=(List.getElem?_eq_some_iff.1 hx).1;simpa using this
   rw [List.getElem?_set_self hl] at hx;cases hx;exact hn
 rw [List.getElem?_set_ne hij] at hx;exact mn.1 h j x hx
theorem pH {α:Type} {l:List α} {f:α->Int} (h:∀a∈l,isW (f a)=true):cE (l.map f)=true:=by
 unfold cE;rw [List.all_eq_true];intro x hx;obtain ⟨a,ha,rfl⟩:=List.mem_map.1 hx;exact h a ha
theorem sf {ss:List (List Int)} {cs:List (Int×List Int)} {f:Bool} {bs:List Int} {n:Int}:cE (eF ss cs f bs n)=true:=by
 unfold eF;split
 . rename_i h
   unfold dR at h;simp only [Bool.and_eq_true] at h
   obtain ⟨h1,h2,_,_⟩:=(dW ss cs bs).1 h.1;have hs:∀zs:List Int,da zs=true->cE zs=true:=fun zs hz=>by unfold da at hz;simp only [Bool.and_eq_true] at hz;exact hz.2
   cases hl:cG cs n with
   | some zs=>
    have:=h2 _ (jI hl);unfold wrB at this;simp only [Bool.and_eq_true] at this
    exact hs _ this.2
   | none=>
    show cE (ma ss n)=true
    unfold ma;rw [List.getD_eq_getElem?_getD];cases hi:ss[n.toNat]? with
    | none=>rfl
    | some zs=>exact hs _ (h1 zs (List.mem_of_getElem? hi))
 rfl
theorem qA (x:al) (ms:List ai) (m s:Int):isW (fO x ms m s)=true:=by
 unfold fO;split
 . exact jU sf 0
 rfl
theorem jg {zs:List Int} (h:cE zs=true) (k:Int):∀j,isW (fL zs k j)=true
 | 0=>rfl
 | j+1=>by
  rw [lO];split
  . exact jg h k j
  exact tG (jg h k j) (jU h j)
theorem pI (x:al) (ms:List ai) (s:Int):cE (de x ms s)=true:=by
 have hw:cE (ex x ms s x.n.toNat)=true:=pH fun i _=>qA x ms _ s;unfold de;split
 . exact hw
 . exact pG hw (jg hw _ _)
 rfl
theorem qB (x:al) (ms:List ai) (s:Int):cE (gT x ms s)=true:=by
 unfold gT;split
 . exact pH fun i _=>jU (pI x ms s) _
 rfl
theorem sg {x:al} {ms:List ai} {ds:List aE} (ha:aX x ms ds=true) (s:Int):cE (iV x ms ds s)=true:=by
 have he:=jx.1 (aS.1 ha).2.2.2.1;unfold iV;split
 . split
   . rfl
   exact qB x ms s
 rename_i hn
 rcases gy ds s with hat|⟨j,d,hat,hdj,_⟩
 . exact absurd hat hn
 rw [hat,Int.toNat_natCast,List.getD_eq_getElem?_getD,hdj];exact (he.1 j d hdj).2.2
theorem tH {G:Int} {q:al×List ai} {ds:List aE} (h:bP G q ds) {b n:Int} (hb:cZ q.1.n q.1.s b=true) (hn:isW n=true):bP G q (nH q.1 q.2 ds b n):=by
 obtain ⟨ha,hi,hbr,h1,h2⟩:=h;refine ⟨?_,hi,hbr,h1,h2⟩
 unfold nH;split
 . rename_i hk
   obtain ⟨p1,p2,p3,p4,p5,p6⟩:=aS.1 ha;obtain ⟨s1,s2,i1,i2⟩:=pC p1 hb;have hin:inB (cC q.1.n q.1.s b) 0 (q.1.s-1)=true:=aG.2 ⟨s1,s2⟩;refine aS.2 ⟨p1,p2,p3,tF ha hin ?_ ?_,p5,p6⟩
   . rw [List.length_set];exact pD ha hk
   exact pG (sg ha _) hn
 exact ha
theorem nI {G:Int} {q:al×List ai} {ds:List aE} (h:bP G q ds) (hG:G<59000):bP (G+1) (cP q) ds:=by
 obtain ⟨ha,hi,hb,h1,h2⟩:=h;have k:=lX (q:=q) hi;obtain ⟨p1,p2,p3,p4,p5,p6⟩:=aS.1 ha;have p6':=fy.1 p6;refine ⟨aS.2 ?_,k.idle hi,?_,?_,?_⟩
 . rw [k.1]
   refine ⟨p1,p2,gR p3 k.2.1 (k.2.2 (lY p3)),p4,p5,fy.2 ?_⟩
   show (0<=q.1.tail/\q.1.tail<=60000)/\(q.1.tail<=q.1.seq/\q.1.seq<=60000)/\q.1.seq<=q.1.tail+4/\(0<=q.1.gen+1/\q.1.gen+1<=60000)/\-1<=q.1.uI/\q.1.uI<=1000
   omega
 . rw [k.1];exact hb
 . rw [k.1];show q.1.gen+1<=G+1;omega
 rw [k.1];show q.1.seq<=G+1;omega
theorem si {G:Int} {q:al×List ai} {ds:List aE} (h:bP G q ds) (hG:G<59000) (hl:q.1.lost=-1) {m:Nat} (hm:(m:Int)<q.1.n):bP (G+1) (dv q m) ds:=by
 obtain ⟨ha,hi,hb,h1,h2⟩:=h;obtain ⟨p1,p2,p3,p4,p5,p6⟩:=aS.1 ha;have g1:=az.1 p1;have hx:bT q.1 (m:Int)={q.1 with lost:=(m:Int),uG:=0}:=by unfold bT;rw [if_pos (.inl hl)]
 have h3:=dh.1 p3;have hml:m<q.2.length:=by have:=h3.2;omega
 have hmd:=List.getElem?_eq_getElem hml;have hg:q.2.getD m ew=q.2[m]:=dr hmd;obtain ⟨a1,a2,_⟩:=h3.1 m _ hmd;have hgood:bP G (bT q.1 (m:Int),q.2.set m (du (q.2.getD m ew))) ds:=by
  rw [hx,hg];refine ⟨aS.2 ⟨p1,p2,?_,p4,?_,p6⟩,hi,hb,h1,h2⟩
  . refine jw p3 rfl rfl (rZ a1) a2 (fun _=>.inl rfl) (fun i e hne he hf=>?_)
    rcases (h3.1 i e he).2.2 hf with h|h
    . omega
    rw [hb] at h;cases h
  unfold cS;simp only [Bool.and_eq_true,aG,Bool.or_eq_true,Bool.not_eq_true',decide_eq_true_eq,decide_eq_false_iff_not]
  refine ⟨⟨by omega,by omega⟩,⟨by omega,by omega⟩,.inr trivial⟩
 have hc:(!(bT q.1 (m:Int)).down&&!(bT q.1 (m:Int)).uH&&decide ((bT q.1 (m:Int)).gen<60000))=true:=by
  rw [hx];show (!q.1.down&&!q.1.uH&&decide (q.1.gen<60000))=true
  rw [hi.1,hb];simp
  omega
 unfold dv;rw [if_pos hc];exact nI hgood hG
theorem qC {G:Int} {q:al×List ai} {ds:List aE} (h:bP G q ds) (hG:G<59000) (hl:0<=q.1.lost):bP (G+1) (eO q) ds:=by
 obtain ⟨ha,hi,hb,h1,h2⟩:=h;obtain ⟨p1,p2,p3,p4,p5,p6⟩:=aS.1 ha;have g1:=az.1 p1;have h3:=dh.1 p3;have hlt:(q.1.lost.toNat:Int)=q.1.lost:=by omega
 have hlen:((dN (6+q.1.s)).length:Int)=6+q.1.s:=by unfold dN;rw [if_pos ⟨by omega,by omega⟩,List.length_replicate];omega
 have hgood:bP G ({q.1 with uG:=0},q.2.set q.1.lost.toNat (jT q.1.s)) ds:=by
  refine ⟨aS.2 ⟨p1,p2,?_,p4,?_,p6⟩,hi,hb,h1,h2⟩
  . refine jw p3 rfl rfl (lF (by omega) (by omega)) hlen (fun h=>by cases h) (fun i e hne he hf=>?_)
    exact (h3.1 i e he).2.2 hf
  unfold cS at p5 ⊢;simp only [Bool.and_eq_true,aG,Bool.or_eq_true,Bool.not_eq_true',decide_eq_true_eq,decide_eq_false_iff_not] at p5 ⊢
  exact ⟨p5.1,⟨by omega,by omega⟩,.inr trivial⟩
 unfold eO;exact nI hgood hG
theorem sj {G:Int} {q:al×List ai} {ds:List aE} (h:bP G q ds) (hl:0<=q.1.lost) (hbs:q.1.uG<q.1.s):bP G (iJ q) ds:=by
 obtain ⟨ha,hi,hb,h1,h2⟩:=h;have h0:bP G q ds:=⟨ha,hi,hb,h1,h2⟩;obtain ⟨p1,p2,p3,p4,p5,p6⟩:=aS.1 ha;unfold iJ;split
 . have k:fa q (cJ q):=iP hi _ _ _
   rw [if_neg (by rw [(k.idle hi).1];simp)];have hm:=gR p3 k.2.1 (k.2.2 (lY p3));rw [show cJ q=((cJ q).1,(cJ q).2) from rfl,k.1];refine ⟨aS.2 ⟨p1,p2,hm,p4,?_,p6⟩,hi,hb,h1,h2⟩
   unfold cS at p5 ⊢;simp only [Bool.and_eq_true,aG,Bool.or_eq_true,Bool.not_eq_true',decide_eq_true_eq,decide_eq_false_iff_not] at p5 ⊢
   exact ⟨p5.1,⟨by omega,by omega⟩,.inl (by omega)⟩
 exact h0
def St6 (w:World) (g:Nat) (a:Option Addr) (lb cb:Nat) (zs:List Int) (N B:Nat) (G:Int) (q:al×List ai) (ds:List aE) (fm fd:List Nat):Prop:=
 aN w g a lb cb zs/\aD w B q.1 q.2 ds fm fd/\bP G q ds/\(g<N/\N<=w.heap.size/\N<=B)/\(∀b∈fm,N<=b)/\∀b∈fd,N<=b
def At6 (w:World) (g:Nat) (a:Option Addr) (lb cb:Nat) (zs:List Int) (N B:Nat) (G:Int):Prop:=∃q ds fm fd,St6 w g a lb cb zs N B G q ds fm fd
theorem bP.more {G G':Int} {q:al×List ai} {ds:List aE} (h:bP G q ds) (hG:G<=G'):bP G' q ds:=⟨h.1,h.2.1,h.2.2.1,Int.le_trans h.2.2.2.1 hG,Int.le_trans h.2.2.2.2 hG⟩
theorem St6.more {w:World} {g:Nat} {a:Option Addr} {lb cb:Nat} {zs:List Int} {N B:Nat} {G G':Int} {q:al×List ai} {ds:List aE} {fm fd:List Nat} (h:St6 w g a lb cb zs N B G q ds fm fd) (hG:G<=G'):St6 w g a lb cb zs N B G' q ds fm fd:=⟨h.1,h.2.1,h.2.2.1.more hG,h.2.2.2⟩
theorem St6.draw {w w':World} {g:Nat} {a:Option Addr} {lb cb:Nat} {zs:List Int} {N B:Nat} {G:Int} {q:al×List ai} {ds:List aE} {fm fd:List Nat} (h:St6 w g a lb cb zs N B G q ds fm fd) (hd:aN w' g a lb cb zs) (hb:But g (g+1) w w'):St6 w' g a lb cb zs N B G q ds fm fd:=by
 obtain ⟨_,h2,h3,h4,h5,h6⟩:=h;refine ⟨hd,h2.kept (fq:=[g]) ⟨hb.os,hb.tape,hb.output,hb.size,fun k hk hf=>hb.block k hk (by simp at hf;omega)⟩ (by simp;omega) (fun b hm=>?_) (fun b hm=>?_),h3,⟨h4.1,Nat.le_trans h4.2.1 hb.size,h4.2.2⟩,h5,h6⟩
 . have:=h5 b hm;simp;omega
 have:=h6 b hm;simp;omega
theorem St6.below {w w':World} {g:Nat} {a:Option Addr} {lb cb:Nat} {zs:List Int} {N B:Nat} {G:Int} {q:al×List ai} {ds:List aE} {fm fd:List Nat} (h:St6 w g a lb cb zs N B G q ds fm fd) (hb:Below w.heap.size w w'):St6 w' g a lb cb zs N B G q ds fm fd:=
 ⟨h.1.lower hb h.1.lt,h.2.1.below hb,h.2.2.1,⟨h.2.2.2.1.1,Nat.le_trans h.2.2.2.1.2.1 hb.size,h.2.2.2.1.2.2⟩,h.2.2.2.2⟩
theorem But.fr {g N:Nat} {w w':World} (hb:But g (g+1) w w') (hN:N<=w.heap.size):Fr N g w w':=⟨hb.os,hb.tape,hb.output,hb.size,fun k hk hne=>hb.block k (by omega) (by omega)⟩
theorem St6.turned {w w':World} {g:Nat} {a:Option Addr} {lb cb:Nat} {zs:List Int} {N B:Nat} {G G':Int} {q q':al×List ai} {ds ds':List aE} {fm fd fm' fd' fq:List Nat} (h:St6 w g a lb cb zs N B G q ds fm fd) (ht:aq fq w w') (hq:∀b∈fq,N<=b) (hA:aD w' B q'.1 q'.2 ds' fm' fd') (hG:bP G' q' ds') (hm:∀b∈fm',b∈fm∨b∈fd∨w.heap.size<=b) (hd:∀b∈fd',b∈fm∨b∈fd∨w.heap.size<=b):
 At6 w' g a lb cb zs N B G'/\Fr N g w w':=by
 obtain ⟨h1,h2,h3,h4,h5,h6⟩:=h;have hgl:=h1.lt;have hb:Below (g+1) w w':=⟨ht.os,ht.tape,ht.output,ht.size,fun k hk=>ht.block k (by omega) (fun hm=>by have:=hq k hm;omega)⟩;have hin:∀b,b∈fm∨b∈fd∨w.heap.size<=b->N<=b:=fun b hb=>by
  rcases hb with h|h|h
  . exact h5 b h
  . exact h6 b h
  omega
 exact ⟨⟨q',ds',fm',fd',h1.lower hb (by omega),hA,hG,⟨h4.1,Nat.le_trans h4.2.1 ht.size,h4.2.2⟩,fun b hb=>hin b (hm b hb),fun b hb=>hin b (hd b hb)⟩,Fr.ofTurned ht h4.2.1 hq⟩
theorem jz {G:Int} {q:al×List ai} {ds:List aE} (h:bP G q ds):aM q.2 ds<=20000/\ds.length<=101:=by
 obtain ⟨p1,p2,p3,p4,p5,p6⟩:=aS.1 h.1;have g1:=az.1 p1;have hl:=ud (rf h.1);have h1:=lJ (lY p3) (by have:=(dh.1 p3).2;omega);have h2:=dA (ds.map fun x=>x.2.length) 4 (fun y hy=>by
  obtain ⟨d,hd,rfl⟩:=List.mem_map.1 hy;obtain ⟨i,hi⟩:=List.mem_iff_getElem?.1 hd;have:=((jx.1 p4).1 i d hi).2.1;omega)
 rw [List.length_map] at h2;have h3:aY ds<=101+404:=by
  unfold aY;exact Nat.add_le_add hl (Nat.le_trans h2 (by omega))
 refine ⟨?_,hl⟩
 unfold aM;omega
theorem qH {G:Int} {q:al×List ai} {ds:List aE} (h:bP G q ds) {m:Nat} {ss:List (List Int)} {cs:List (Int×List Int)} {f:Bool} {bs:List Int} (hd:q.2[m]?=some (ss,cs,f,bs)) (n:Int):bP G (q.1,q.2.set m (ss,cs,f,ev ss cs bs n)) ds:=by
 obtain ⟨ha,hi,hb,h1,h2⟩:=h;obtain ⟨p1,p2,p3,p4,p5,p6⟩:=aS.1 ha;have h3:=dh.1 p3;refine ⟨aS.2 ⟨p1,p2,jw p3 rfl rfl ?_ (h3.1 m _ hd).2.1 (fun hf=>(h3.1 m _ hd).2.2 hf) (fun i e _ he hf=>(h3.1 i e he).2.2 hf),p4,p5,p6⟩,hi,hb,h1,h2⟩
 show aW ss cs (ev ss cs bs n)=true
 unfold ev;split
 . rename_i hs
   exact lE hs
 exact (h3.1 m _ hd).1
theorem nJ {N B:Nat} {fm fd:List Nat} (h1:N<=B) (h2:∀b∈fm,N<=b) (h3:∀b∈fd,N<=b):∀b∈B :: (fm++fd),N<=b:=fun b hb=>by
 simp only [List.mem_cons,List.mem_append] at hb
 rcases hb with h|h|h
 . omega
 . exact h2 b h
 exact h3 b h
theorem set6 {w:World} {g:Nat} {a:Option Addr} {lb cb:Nat} {zs:List Int} {N B:Nat} {G:Int} {q:al×List ai} {ds:List aE} {fm fd:List Nat} (h:St6 w g a lb cb zs N B G q ds fm fd) {b n:Int} (hb:cZ q.1.n q.1.s b=true) (hn:isW n=true):
 Calls Tryz.prog 60 #[.pointer (some ⟨B,0,none⟩),.int .i64 b,.int .i64 n] w fun e w'=>∃v,e=.returned (.int .i64 v)/\At6 w' g a lb cb zs N B G/\Fr N g w w':=by
 have hw:=jz h.2.2.1;refine (se w B q.1 q.2 ds fm fd h.2.1 h.2.2.1.1 (by omega) (by omega) b n hb).mono ?_
 rintro e w' ⟨rfl,fd',hA,hT,hN⟩;refine ⟨_,rfl,h.turned hT (fun b hb=>?_) (q':=q) hA (tH h.2.2.1 hb hn) (fun b hb=>.inl hb) (fun b hb=>(hN b hb).elim (fun h=>.inr (.inl h)) (fun h=>.inr (.inr h)))⟩
 rcases List.mem_cons.1 hb with e|hb
 . have:=h.2.2.2.1.2.2;omega
 exact h.2.2.2.2.2 b hb
theorem qI {w:World} {g:Nat} {a:Option Addr} {lb cb:Nat} {zs:List Int} {N B:Nat} {G:Int} {q:al×List ai} {ds:List aE} {fm fd:List Nat} (h:St6 w g a lb cb zs N B G q ds fm fd) (t:Int):
 Calls Tryz.prog 67 #[.pointer (some ⟨B,0,none⟩),.int .i64 t] w fun e w'=>∃v,e=.returned (.int .i64 v)/\At6 w' g a lb cb zs N B (G+1)/\Fr N g w w':=by
 have hw:=jz h.2.2.1;refine (kC w B q.1 q.2 ds fm fd h.2.1 (by omega) t).mono ?_
 rintro e w' ⟨rfl,fm',fd',hA,hT,hN⟩;exact ⟨_,rfl,h.turned hT (nJ h.2.2.2.1.2.2 h.2.2.2.2.1 h.2.2.2.2.2) hA (lZ h.2.2.1 t) (fun b hb=>hN b (.inl hb)) (fun b hb=>hN b (.inr hb))⟩
theorem all6 {w:World} {g:Nat} {a:Option Addr} {lb cb:Nat} {zs:List Int} {N B:Nat} {G:Int} {q:al×List ai} {ds:List aE} {fm fd:List Nat} (h:St6 w g a lb cb zs N B G q ds fm fd):
 Calls Tryz.prog 70 #[.pointer (some ⟨B,0,none⟩)] w fun e w'=>∃v,e=.returned (.int .i64 v)/\At6 w' g a lb cb zs N B (G+101)/\Fr N g w w':=by
 have hw:=jz h.2.2.1;refine (sm w B q.1 q.2 ds fm fd h.2.1 (by omega)).mono ?_
 rintro e w' ⟨rfl,fm',fd',hA,hT,hN⟩;have hG:bP (G+101) (fv (q.1,q.2) ds).1 (fv (q.1,q.2) ds).2.1:=(nD ds h.2.2.1).more (by omega);exact ⟨_,rfl,h.turned hT (nJ h.2.2.2.1.2.2 h.2.2.2.2.1 h.2.2.2.2.2) hA hG (fun b hb=>hN b (.inl hb)) (fun b hb=>hN b (.inr hb))⟩
theorem mz {w w':World} {g:Nat} {a:Option Addr} {lb cb:Nat} {zs:List Int} {N B:Nat} {G G':Int} {q q':al×List ai} {ds:List aE} {fm fd fm':List Nat} (h:St6 w g a lb cb zs N B G q ds fm fd) (hA:aD w' B q'.1 q'.2 ds fm' fd) (hM:aI B fm w fm' w') (hG:bP G' q' ds):At6 w' g a lb cb zs N B G'/\Fr N g w w':=
 h.turned hM.1 (fun b hb=>by
  rcases List.mem_cons.1 hb with e|hb
  . have:=h.2.2.2.1.2.2;omega
  exact h.2.2.2.2.1 b hb) hA hG (fun b hb=>(hM.2 b hb).elim .inl (fun h=>.inr (.inr h))) (fun b hb=>.inr (.inl hb))
theorem eX {G:Int} {q:al×List ai} {ds:List aE} (h:bP G q ds):q.1.uI<=1000/\bJ q.2/\0<=q.1.gen/\q.1.gen<=60000/\bI q.1.n q.1.s=true/\(q.2.length:Int)=q.1.n/\q.1.lost<=q.1.n-1/\0<=q.1.uG/\q.1.uG<=q.1.s:=by
 obtain ⟨p1,p2,p3,p4,p5,p6⟩:=aS.1 h.1;have h6:=fy.1 p6;unfold cS at p5;simp only [Bool.and_eq_true,aG] at p5
 exact ⟨by omega,lY p3,by omega,by omega,p1,(dh.1 p3).2,by omega,by omega,by omega⟩
theorem oF {G:Int} {q:al×List ai} {ds:List aE} (h:bP G q ds):-1<=q.1.lost:=by
 obtain ⟨p1,p2,p3,p4,p5,p6⟩:=aS.1 h.1;unfold cS at p5;simp only [Bool.and_eq_true,aG] at p5
 omega
theorem check6 {w:World} {g:Nat} {a:Option Addr} {lb cb:Nat} {zs:List Int} {N B:Nat} {G:Int} {q:al×List ai} {ds:List aE} {fm fd:List Nat} (h:St6 w g a lb cb zs N B G q ds fm fd) (hG:G<59000):
 Calls Tryz.prog 158 #[.pointer (some ⟨B,0,none⟩)] w fun e w'=>e=.returned (.tuple #[])/\At6 w' g a lb cb zs N B (G+1)/\Fr N g w w':=by
 obtain ⟨n1,n2,n3,n4,n5,n6,n7,n8,n9⟩:=eX h.2.2.1;refine (iE w B q.1 q.2 ds fm fd h.2.1 n1 n2 n3 n4).mono ?_
 rintro e w' ⟨rfl,fm',hA,hM⟩;exact ⟨rfl,mz h hA hM (qu h.2.2.1 hG)⟩
theorem fail6 {w:World} {g:Nat} {a:Option Addr} {lb cb:Nat} {zs:List Int} {N B:Nat} {G:Int} {q:al×List ai} {ds:List aE} {fm fd:List Nat} (h:St6 w g a lb cb zs N B G q ds fm fd) (hG:G<59000) (hl:q.1.lost=-1) {m:Int} (h0:0<=m) (h1:m<q.1.n):
 Calls Tryz.prog 80 #[.pointer (some ⟨B,0,none⟩),.int .i64 m] w fun e w'=>e=.returned (.tuple #[])/\At6 w' g a lb cb zs N B (G+1)/\Fr N g w w':=by
 obtain ⟨n1,n2,n3,n4,n5,n6,n7,n8,n9⟩:=eX h.2.2.1;obtain ⟨k,rfl⟩:=Int.eq_ofNat_of_zero_le h0;refine (kI w B q.1 q.2 ds fm fd h.2.1 n1 n2 n3 n4 k (by omega)).mono ?_
 rintro e w' ⟨rfl,fm',hA,hM⟩;exact ⟨rfl,mz h hA hM (si h.2.2.1 hG hl h1)⟩
theorem spare6 {w:World} {g:Nat} {a:Option Addr} {lb cb:Nat} {zs:List Int} {N B:Nat} {G:Int} {q:al×List ai} {ds:List aE} {fm fd:List Nat} (h:St6 w g a lb cb zs N B G q ds fm fd) (hG:G<59000) (hl:0<=q.1.lost):
 Calls Tryz.prog 91 #[.pointer (some ⟨B,0,none⟩)] w fun e w'=>∃v,e=.returned (.int .i64 v)/\At6 w' g a lb cb zs N B (G+1)/\Fr N g w w':=by
 obtain ⟨n1,n2,n3,n4,n5,n6,n7,n8,n9⟩:=eX h.2.2.1;refine (oE w B q.1 q.2 ds fm fd h.2.1 n1 n2 n3 n4 n5 q.1.lost.toNat (by omega) (by omega)).mono ?_
 rintro e w' ⟨rfl,fm',hA,hM⟩;exact ⟨_,rfl,mz h hA hM (qC h.2.2.1 hG hl)⟩
theorem step6 {w:World} {g:Nat} {a:Option Addr} {lb cb:Nat} {zs:List Int} {N B:Nat} {G:Int} {q:al×List ai} {ds:List aE} {fm fd:List Nat} (h:St6 w g a lb cb zs N B G q ds fm fd) (hl:0<=q.1.lost) (hb:q.1.uG<q.1.s):
 Calls Tryz.prog 93 #[.pointer (some ⟨B,0,none⟩)] w fun e w'=>∃v,e=.returned (.int .i64 v)/\At6 w' g a lb cb zs N B G/\Fr N g w w':=by
 obtain ⟨n1,n2,n3,n4,n5,n6,n7,n8,n9⟩:=eX h.2.2.1;have hw:=(jz h.2.2.1).1;have hs:=(az.1 n5).2.2.2;refine (pF w B q.1 q.2 ds fm fd h.2.1 n1 n2 n5 (by unfold aM at hw;omega) q.1.lost.toNat (by omega) (by omega) (by omega) (by omega)).mono ?_
 rintro e w' ⟨rfl,fm',hA,hM⟩;exact ⟨_,rfl,mz h hA hM (sj h.2.2.1 hl hb)⟩
end Go.Proofs.YtejokiafgbjdaaaGreat
