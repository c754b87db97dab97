/-
 The specification's l8All and FlushAll walked. Condition: the array weighs at most 1900000.
-/
import Derived.Test.YtejokiafgbjdaaaGreatRowFailsBentSq43
import Derived.Test.YtejokiafgbjdaaaGreatRowFailsBentSq39
import Derived.Test.YtejokiafgbjdaaaGreatRowFailsBentSq26
import Derived.Test.YtejokiafgbjdaaaGreatRowFailsBentSq7
import Derived.Test.YtejokiafgbjdaaaGreatRowFailsBentSq3
import Derived.Test.YtejokiafgbjdaaaGreatRowFailsBentSq16
import Derived.Test.YtejokiafgbjdaaaGreatRowFailsBentSq33
import Derived.Test.YtejokiafgbjdaaaGreatRowFailsBentSq18
import Derived.Deep.LoopGhost

set_option maxRecDepth 100000
set_option maxHeartbeats 8000000
set_option linter.unusedSimpArgs false

namespace Go.Proofs.YtejokiafgbjdaaaGreat
open Go.RowKit

def jt (x:al):Prop:=x.down=false/\x.uI=-1
theorem tu {x:al} (h:jt x):opX x=x/\opB x=true:=by
 unfold opX opB;rw [h.1,h.2];simp
def ju (ms ms':List ai):Prop:=ms'.length=ms.length/\∀(i:Nat) (d d':ai),ms[i]?=some d->ms'[i]?=some d'->d'.1.length=d.1.length/\d'.2.2.1=d.2.2.1
theorem ju.refl (ms:List ai):ju ms ms:=⟨rfl,fun i d d' h h'=>by rw [h] at h';cases h';exact ⟨rfl,rfl⟩⟩
theorem ju.trans {a b c:List ai} (h:ju a b) (k:ju b c):ju a c:=
 ⟨k.1.trans h.1,fun i d d' h1 h2=>by
  have hi:=(List.getElem?_eq_some_iff.1 h1).1;have hb:=List.getElem?_eq_getElem (show i<b.length by rw [h.1];exact hi);obtain ⟨a1,a2⟩:=h.2 i d _ h1 hb;obtain ⟨b1,b2⟩:=k.2 i _ d' hb h2;exact ⟨b1.trans a1,b2.trans a2⟩⟩
def fa (q q':al×List ai):Prop:=q'.1=q.1/\ju q.2 q'.2/\(bJ q.2->bJ q'.2)
theorem fa.refl (q:al×List ai):fa q q:=⟨rfl,ju.refl _,fun h=>h⟩
theorem fa.trans {a b c:al×List ai} (h:fa a b) (k:fa b c):fa a c:=⟨k.1.trans h.1,h.2.1.trans k.2.1,fun m=>k.2.2 (h.2.2 m)⟩
theorem fa.idle {a b:al×List ai} (h:fa a b) (hi:jt a.1):jt b.1:=by rw [h.1];exact hi
theorem px {q:al×List ai} (h:jt q.1) (i:Nat) (f:ai->ai) (hf:∀d:ai,(f d).1.length=d.1.length/\(f d).2.2.1=d.2.2.1) (hm:∀d:ai,aW d.1 d.2.1 d.2.2.2=true->aW (f d).1 (f d).2.1 (f d).2.2.2=true):fa q (doS q i f):=by
 refine ⟨?_,⟨iO q i f,fun j d d' h1 h2=>?_⟩,fun m=>oh m hm⟩
 . unfold doS
   split
   . rfl
   rw [(tu h).1];split<;>rfl
 unfold doS at h2;split at h2
 . rw [h1] at h2;cases h2;exact ⟨rfl,rfl⟩
 split at h2
 . by_cases hij:i=j
   . subst hij
     have hi:=(List.getElem?_eq_some_iff.1 h1).1;rw [List.getElem?_set_self hi,dr h1] at h2;cases h2;exact hf d
   rw [List.getElem?_set_ne hij,h1] at h2;cases h2;exact ⟨rfl,rfl⟩
 rw [h1] at h2;cases h2;exact ⟨rfl,rfl⟩
theorem rY (d:ai):(flM d).1.length=d.1.length/\(flM d).2.2.1=d.2.2.1:=by
 refine ⟨?_,rfl⟩
 show (gJ d.1 d.2.1 d.2.2.1 d.2.2.2).length=_
 unfold gJ;split
 . exact ce _ _
 rfl
theorem iP {q:al×List ai} (h:jt q.1) (i:Nat) (n:Int) (s:List Int):fa q (eZ q i n s):=px h i _ (fun _=>⟨rfl,rfl⟩) (oq n s)
theorem ig {q:al×List ai} (h:jt q.1):∀j,fa q (bw q j)
 | 0=>fa.refl q
 | j+1=>by
  rw [hX];have ih:=ig h j;exact ih.trans (px (ih.idle h) j flM rY qk)
theorem lV {q:al×List ai} (h:jt q.1):∀j,fa q (cX q j)
 | 0=>fa.refl q
 | j+1=>by
  rw [hY];have ih:=lV h j;exact ih.trans (iP (ih.idle h) j _ _)
theorem lW {q:al×List ai} (h:jt q.1) (n:Int) (s:List Int):∀j,fa q (eE q n s j)
 | 0=>fa.refl q
 | j+1=>by
  have e:eE q n s (j+1)=eZ (eE q n s j) j n s:=by unfold eE;rw [List.range_succ,List.foldl_append];rfl
  rw [e];have ih:=lW h n s j;exact ih.trans (iP (ih.idle h) j _ _)
theorem kD {q:al×List ai} (h:jt q.1) (s p:Int) (zs:List Int):∀j,fa q (bj q s p zs j)
 | 0=>fa.refl q
 | j+1=>by
  have e:bj q s p zs (j+1)=if eC (bj q s p zs j).1 (bj q s p zs j).2 (j:Int) s=true then eZ (bj q s p zs j) j (bp s) [jr (bj q s p zs j).1.n p zs j] else bj q s p zs j:=by unfold bj;rw [List.range_succ,List.foldl_append];rfl
  rw [e];have ih:=kD h s p zs j;split
  . exact ih.trans (iP (ih.idle h) j _ _)
  exact ih
theorem lX {q:al×List ai} (h:jt q.1):fa ({q.1 with gen:=q.1.gen+1},q.2) (cP q):=by
 have h1:=lV (q:=({q.1 with gen:=q.1.gen+1},q.2)) h q.2.length;exact h1.trans (ig (h1.idle h) _)
theorem kE {q:al×List ai} (h:jt q.1):fa ({q.1 with tail:=q.1.seq,gen:=q.1.gen+1},q.2) (dQ q):=by
 have h1:=ig (q:=q) h q.2.length;have hi:=h1.idle h;unfold dQ;rw [if_neg (by rw [hi.1];simp)];have h2:=lX (q:=({(bw q q.2.length).1 with tail:=(bw q q.2.length).1.seq},(bw q q.2.length).2)) hi;refine ⟨?_,h1.2.1.trans h2.2.1,fun m=>h2.2.2 (h1.2.2 m)⟩
 rw [h2.1];show ({(bw q q.2.length).1 with tail:=(bw q q.2.length).1.seq,gen:=(bw q q.2.length).1.gen+1}:al)=_
 rw [h1.1]
def gl (x:al):al:=if 4<=x.seq-x.tail then {x with tail:=x.seq,gen:=x.gen+1,seq:=x.seq+1} else {x with seq:=x.seq+1}
theorem py {q:al×List ai} (h:jt q.1) (s:Int) (zs:List Int):fa (gl q.1,q.2) (aQ q s zs):=by
 have k1:fa ((if 4<=q.1.seq-q.1.tail then {q.1 with tail:=q.1.seq,gen:=q.1.gen+1} else q.1:al),q.2) (wr1 q):=by
  unfold wr1;split
  . exact kE h
  exact fa.refl q
 have hi1:jt (wr1 q).1:=by
  rw [k1.1];split
  . exact h
  exact h
 have k2:fa (wr1 q) (wr2 (wr1 q) s zs):=by
  unfold wr2 qm;have h1:=lW hi1 (fh (wr1 q).1.seq) (jO (wr1 q).1.seq s zs) (wr1 q).2.length;exact h1.trans (ig (h1.idle hi1) _)
 have hi2:=k2.idle hi1;unfold aQ;rw [if_neg (by rw [hi1.1];simp)];unfold ou;rw [if_neg (by rw [hi2.1];simp)];unfold wr3;have k3:=kD (q:=({(wr2 (wr1 q) s zs).1 with seq:=(wr2 (wr1 q) s zs).1.seq+1},(wr2 (wr1 q) s zs).2)) hi2 s (fD (wr2 (wr1 q) s zs).1.n (wr2 (wr1 q) s zs).1.s s) zs (wr2 (wr1 q) s zs).2.length;refine ⟨?_,(k1.2.1.trans k2.2.1).trans k3.2.1,fun m=>k3.2.2 (k2.2.2 (k1.2.2 m))⟩
 rw [k3.1];show ({(wr2 (wr1 q) s zs).1 with seq:=(wr2 (wr1 q) s zs).1.seq+1}:al)=gl q.1
 rw [k2.1,k1.1];unfold gl;split<;>rfl
theorem jx {x:al} {ds:List aE}:dU x ds=true ↔ (∀(i:Nat) (e:aE),ds[i]?=some e->inB e.1 0 (x.s-1)=true/\(e.2.length:Int)=x.n-1/\cE e.2=true)/\∀(i j:Nat) (e e':aE),i<j->ds[i]?=some e->ds[j]?=some e'->e.1<e'.1:=by
 unfold dU;rw [dj];constructor
 . intro he
   have h1:∀(i:Nat) (e e':aE),ds[i]?=some e->ds[i+1]?=some e'->e.1<e'.1:=fun i e e' h h'=>by
    have:=he (i+1) e' h';unfold cW at this;simp only [Bool.and_eq_true,Bool.or_eq_true,decide_eq_true_eq,Nat.add_sub_cancel] at this
    rcases this.2.2.2 with h0|h0
    . omega
    rw [List.getD_eq_getElem?_getD,h] at h0;exact h0
   refine ⟨fun i e h=>?_,fun i j=>?_⟩
   . have:=he i e h
     unfold cW at this;simp only [Bool.and_eq_true,decide_eq_true_eq] at this
     exact ⟨this.1,this.2.1,this.2.2.1⟩
   induction j with
   | zero=>intro e e' h;omega
   | succ j ih=>
    intro e e' hij h h';by_cases hj:i=j
    . subst hj
      exact h1 i e e' h h'
    have hjl:=(List.getElem?_eq_some_iff.1 h').1;have hjj:=List.getElem?_eq_getElem (show j<ds.length by omega);have a1:=ih e _ (by omega) h hjj;have a2:=h1 j _ e' hjj h';omega
 rintro ⟨h1,h2⟩ i e he;unfold cW;obtain ⟨a1,a2,a3⟩:=h1 i e he;simp only [Bool.and_eq_true,Bool.or_eq_true,decide_eq_true_eq]
 refine ⟨a1,a2,a3,?_⟩
 by_cases hi:i=0
 . exact .inl hi
 have hl:=(List.getElem?_eq_some_iff.1 he).1;have hp:=List.getElem?_eq_getElem (show i-1<ds.length by omega);refine .inr ?_
 rw [List.getD_eq_getElem?_getD,hp];exact h2 (i-1) i _ e (by omega) hp he
theorem tv {x:al} {ds es:List aE} (h:dU x ds=true) (f:Nat->Nat) (hf:∀i j,i<j->f i<f j) (he:∀i e,es[i]?=some e->ds[f i]?=some e):dU x es=true:=by
 rw [jx] at h ⊢;exact ⟨fun i e h'=>h.1 _ e (he i e h'),fun i j e e' hij h1 h2=>h.2 _ _ e e' (hf i j hij) (he i e h1) (he j e' h2)⟩
theorem pz {x:al} {ds:List aE} (h:dU x ds=true) (k:Nat) (hk:k<=ds.length):dU x (ds.take k++ds.drop (k+1))=true:=by
 refine tv h (fun i=>if i<k then i else i+1) (fun i j hij=>?_) (fun i e he=>?_)
 . split<;>split<;>omega
 skip
 have e1:(ds.take k).length=k:=by simp;omega
 by_cases hi:i<k
 . rw [if_pos hi]
   rw [List.getElem?_append_left (by omega),List.getElem?_take,if_pos hi] at he;exact he
 rw [if_neg hi];rw [List.getElem?_append_right (by omega),e1,List.getElem?_drop,show k+1+(i-k)=i+1 by omega] at he;exact he
theorem gR {x:al} {ms ms':List ai} (h:bS x ms=true) (hs:ju ms ms') (hm:bJ ms'):bS x ms'=true:=by
 rw [dh] at h ⊢;refine ⟨fun i d hd=>?_,by rw [hs.1];exact h.2⟩
 have hi:=(List.getElem?_eq_some_iff.1 hd).1;have h0:=List.getElem?_eq_getElem (show i<ms.length by rw [←hs.1];exact hi);obtain ⟨a1,a2,a3⟩:=h.1 i _ h0;obtain ⟨b1,b2⟩:=hs.2 i _ d h0 hd;exact ⟨hm i d hd,by rw [b1];exact a2,fun hf=>a3 (by rw [←b2];exact hf)⟩
theorem lY {x:al} {ms:List ai} (h:bS x ms=true):bJ ms:=fun i d hd=>((dh.1 h).1 i d hd).1
def bP (G:Int) (q:al×List ai) (ds:List aE):Prop:=aX q.1 q.2 ds=true/\jt q.1/\q.1.uH=false/\q.1.gen<=G/\q.1.seq<=G
theorem qu {G:Int} {q:al×List ai} {ds:List aE} (h:bP G q ds) (hG:G<59000):bP (G+1) (dQ q) ds:=by
 obtain ⟨ha,hi,hb,h1,h2⟩:=h;have k:=kE (q:=q) hi;obtain ⟨p1,p2,p3,p4,p5,p6⟩:=aS.1 ha;have p6':=fy.1 p6;refine ⟨aS.2 ?_,k.idle hi,?_,?_,?_⟩
 . rw [k.1]
   refine ⟨p1,p2,gR p3 k.2.1 (k.2.2 (lY p3)),p4,p5,fy.2 ?_⟩
   show (0<=q.1.seq/\q.1.seq<=60000)/\(q.1.seq<=q.1.seq/\q.1.seq<=60000)/\q.1.seq<=q.1.seq+4/\(0<=q.1.gen+1/\q.1.gen+1<=60000)/\-1<=q.1.uI/\q.1.uI<=1000
   omega
 . rw [k.1];exact hb
 . rw [k.1];show q.1.gen+1<=G+1;omega
 rw [k.1];show q.1.seq<=G+1;omega
theorem lZ {G:Int} {q:al×List ai} {ds:List aE} (h:bP G q ds) (t:Int):bP (G+1) (eA q.1 q.2 ds t) (jc q.1 q.2 ds t):=by
 obtain ⟨ha,hi,hb,h1,h2⟩:=h;obtain ⟨p1,p2,p3,p4,p5,p6⟩:=aS.1 ha;have p6':=fy.1 p6;have hsame:bP (G+1) (q.1,q.2) ds:=⟨ha,hi,hb,by show q.1.gen<=G+1;omega,by show q.1.seq<=G+1;omega⟩;rcases gy ds t with hat|⟨k,d,hat,hk,hdt⟩
 . obtain ⟨_,e2,e3⟩:=ur (x:=q.1) (ms:=q.2) hat
   rw [e2,e3];exact hsame
 obtain ⟨y,ys⟩:=d;simp only at hdt
 subst hdt;obtain ⟨e1,e2,e3⟩:=rn (x:=q.1) (ms:=q.2) hat hk;rw [e2,e3];by_cases hc:cI q.1 q.2 ds y ys=0
 . obtain ⟨_,_,_,_,_,_,hsq,hgn⟩:=jP hc
   have hO:dY q.1 q.2 ds y ys=aQ (q.1,q.2) y ys:=by unfold dY;rw [if_pos hc]
   have kk:=py (q:=(q.1,q.2)) hi y ys;have hkl:=(List.getElem?_eq_some_iff.1 hk).1;have hC:dt q.1 q.2 ds y ys=0:=by
    unfold dt;rw [if_pos hc,if_neg];have:(aQ (q.1,q.2) y ys).1.down=false:=by rw [kk.1];unfold gl;split<;>exact hi.1
    rw [this];simp
   rw [hO,if_pos hC];have hx:(aQ (q.1,q.2) y ys).1=gl q.1:=kk.1;refine ⟨aS.2 ?_,?_,?_,?_,?_⟩
   . rw [hx]
     unfold gl;split
     . refine ⟨p1,p2,gR p3 kk.2.1 (kk.2.2 (lY p3)),pz p4 k (by omega),p5,fy.2 ?_⟩
       show (0<=q.1.seq/\q.1.seq<=60000)/\(q.1.seq<=q.1.seq+1/\q.1.seq+1<=60000)/\q.1.seq+1<=q.1.seq+4/\(0<=q.1.gen+1/\q.1.gen+1<=60000)/\-1<=q.1.uI/\q.1.uI<=1000
       omega
     refine ⟨p1,p2,gR p3 kk.2.1 (kk.2.2 (lY p3)),pz p4 k (by omega),p5,fy.2 ?_⟩
     show (0<=q.1.tail/\q.1.tail<=60000)/\(q.1.tail<=q.1.seq+1/\q.1.seq+1<=60000)/\q.1.seq+1<=q.1.tail+4/\(0<=q.1.gen/\q.1.gen<=60000)/\-1<=q.1.uI/\q.1.uI<=1000
     omega
   . rw [hx];unfold gl;split<;>exact hi
   . rw [hx];unfold gl;split<;>exact hb
   . rw [hx];unfold gl
     split
     . show q.1.gen+1<=G+1;omega
     show q.1.gen<=G+1;omega
   rw [hx];unfold gl;split
   . show q.1.seq+1<=G+1;omega
   show q.1.seq+1<=G+1;omega
 have hO:dY q.1 q.2 ds y ys=(q.1,q.2):=by unfold dY;rw [if_neg hc]
 have hC:¬dt q.1 q.2 ds y ys=0:=by unfold dt;rw [if_neg hc];exact hc
 rw [hO,if_neg hC];exact hsame
theorem nD:∀(ds:List aE) {G:Int} {q:al×List ai},bP G q ds->bP (G+ds.length) (fv q ds).1 (fv q ds).2.1
 | [],G,q,h=>by
  show bP (G+((0:Nat):Int)) q []
  rw [show G+((0:Nat):Int)=G by omega];exact h
 | e :: es,G,q,h=>by
  have h1:=lZ h e.1;rw [rt] at h1;by_cases hc:fY q.1 q.2 (e :: es) e.1=0
  . rw [if_pos hc] at h1
    rw [ny hc];have h2:=nD es h1;have e1:G+1+(es.length:Int)=G+((e :: es).length:Int):=by simp;omega
    rw [e1] at h2;exact h2
  rw [if_neg hc] at h1;rw [nz hc];obtain ⟨a1,a2,a3,a4,a5⟩:=h1;refine ⟨a1,a2,a3,?_,?_⟩
  . show _<=G+((e :: es).length:Int)
    have:(1:Int)<=((e :: es).length:Int):=by simp;omega
    exact Int.le_trans a4 (by omega)
  show _<=G+((e :: es).length:Int)
  have:(1:Int)<=((e :: es).length:Int):=by simp;omega
  exact Int.le_trans a5 (by omega)
def cJ (q:al×List ai):al×List ai:=eZ q q.1.lost.toNat (bp q.1.uG) [(de q.1 q.2 q.1.uG).getD q.1.lost.toNat 0]
def iJ (q:al×List ai):al×List ai:=if cQ q.1 q.2 q.1.uG=true then (if (cJ q).1.down=true then cJ q else ({(cJ q).1 with uG:=(cJ q).1.uG+1},(cJ q).2)) else q
def kJ (q:al×List ai):Int:=if cQ q.1 q.2 q.1.uG=true then pE (cJ q).1.down else 5
theorem pF (w:World) (B:Nat) (x:al) (ms:List ai) (ds:List (Int×List Int)) (fm fd:List Nat) (h:aD w B x ms ds fm fd) (hf:x.uI<=1000) (hM:bJ ms) (hg:bI x.n x.s=true) (hwm:aK ms<=2097152) (m:Nat) (hlo:x.lost=(m:Int)) (hm:m<ms.length) (hml:(m:Int)<x.n) (hbu:0<=x.uG/\x.uG<=100):
 Calls Tryz.prog 93 #[.pointer (some ⟨B,0,none⟩)] w fun e w'=>e=.returned (.int .i64 (kJ (x,ms)))/\∃fm',aD w' B (iJ (x,ms)).1 (iJ (x,ms)).2 ds fm' fd/\aI B fm w fm' w':=by
 obtain ⟨g1,g2,g3,g4⟩:=az.1 hg;have HA:=aa h;have hlB:=h.lt;have hlm:=h.ltm.1;have HSC:Hid (kJ (x,ms)=if cQ x ms x.uG=true then pE (cJ (x,ms)).1.down else 5):=rfl;have HSA:Hid (iJ (x,ms)=if cQ x ms x.uG=true then (if (cJ (x,ms)).1.down=true then cJ (x,ms) else ({(cJ (x,ms)).1 with uG:=(cJ (x,ms)).1.uG+1},(cJ (x,ms)).2)) else (x,ms)):=rfl;have HSQ:Hid (cJ (x,ms)=eZ (x,ms) m (bp x.uG) [(de x ms x.uG).getD m 0]):=by unfold Hid cJ;dsimp only;rw [hlo,Int.toNat_natCast]
 have HSN:=aa (fK (q:=(x,ms)) m (fun d=>wrM d (bp x.uG) [(de x ms x.uG).getD m 0]) hf);obtain ⟨bm,bd,cm,cd,X,hmm,hdd,hr,r1,r2⟩:=h;unfold aC at X;obtain ⟨k0,k1,k2,k3,k4,k5,k6,k7,k8,k9,k10,k11,k12⟩:=X.cells13;have HM:=aa hmm.rd;have HLO:=aa hlo;clear hlo;have hS:w.drew.cell? ⟨B,0,none⟩=some (.int .i64 x.id)/\w.drew.cell? ⟨B,1,none⟩=some (.int .i64 x.n)/\w.drew.cell? ⟨B,2,none⟩=some (.int .i64 x.s)/\w.drew.cell? ⟨B,3,none⟩=some (.slice bm ms.length cm)/\w.drew.cell? ⟨B,4,none⟩=some (.int .i64 x.lost)/\w.drew.cell? ⟨B,5,none⟩=some (.int .i64 x.uG)/\w.drew.cell? ⟨B,6,none⟩=some (.int .i64 x.seq)/\w.drew.cell? ⟨B,7,none⟩=some (.int .i64 x.tail)/\w.drew.cell? ⟨B,8,none⟩=some (.int .i64 x.gen)/\w.drew.cell? ⟨B,9,none⟩=some (.slice bd ds.length cd)/\w.drew.cell? ⟨B,10,none⟩=some (.int .i64 x.uI)/\w.drew.cell? ⟨B,11,none⟩=some (.bool x.down)/\w.drew.cell? ⟨B,12,none⟩=some (.bool x.uH):=⟨k0,k1,k2,k3,k4,k5,k6,k7,k8,k9,k10,k11,k12⟩;clear hmm hdd hr r1 r2;go_enter Tryz.func93,Tryz.ntmps93
 go_wp2_with fail
 refine wp_region_held_drew (S:=fun w'=>w'.cell? ⟨B,0,none⟩=some (.int .i64 x.id)/\w'.cell? ⟨B,1,none⟩=some (.int .i64 x.n)/\w'.cell? ⟨B,2,none⟩=some (.int .i64 x.s)/\w'.cell? ⟨B,3,none⟩=some (.slice bm ms.length cm)/\w'.cell? ⟨B,4,none⟩=some (.int .i64 x.lost)/\w'.cell? ⟨B,5,none⟩=some (.int .i64 x.uG)/\w'.cell? ⟨B,6,none⟩=some (.int .i64 x.seq)/\w'.cell? ⟨B,7,none⟩=some (.int .i64 x.tail)/\w'.cell? ⟨B,8,none⟩=some (.int .i64 x.gen)/\w'.cell? ⟨B,9,none⟩=some (.slice bd ds.length cd)/\w'.cell? ⟨B,10,none⟩=some (.int .i64 x.uI)/\w'.cell? ⟨B,11,none⟩=some (.bool x.down)/\w'.cell? ⟨B,12,none⟩=some (.bool x.uH)) (by kernel_rfl) ?_ (fun uF=>?_)
 . exact hS
 refine ab 0 uF ?_
 refine ab 1 uF ?_
 refine ab 2 uF ?_
 refine ab 3 uF ?_
 refine ab 4 uF ?_
 refine ab 5 uF ?_
 refine ab 6 uF ?_
 refine au (i:=7) (by kernel_rfl) rfl (by kernel_rfl) (fun K hK=>?_)
 go_simp
 refine (kH _ 142 78 x _ _ _ _ _ _ ms x.uG HM.out.drew hwm hg).mono ?_
 rintro e w1 ⟨a1,l1,c1,rfl,o1,b1'⟩;have b1:Below w.heap.size w w1:=(Below.refl w.heap.size w).drew.trans b1';have o1b:aA.Own w1 w.heap.size w1.heap.size [.slice a1 l1 c1] (de x ms x.uG):=o1;have hS1:w1.cell? ⟨B,0,none⟩=some (.int .i64 x.id)/\w1.cell? ⟨B,1,none⟩=some (.int .i64 x.n)/\w1.cell? ⟨B,2,none⟩=some (.int .i64 x.s)/\w1.cell? ⟨B,3,none⟩=some (.slice bm ms.length cm)/\w1.cell? ⟨B,4,none⟩=some (.int .i64 x.lost)/\w1.cell? ⟨B,5,none⟩=some (.int .i64 x.uG)/\w1.cell? ⟨B,6,none⟩=some (.int .i64 x.seq)/\w1.cell? ⟨B,7,none⟩=some (.int .i64 x.tail)/\w1.cell? ⟨B,8,none⟩=some (.int .i64 x.gen)/\w1.cell? ⟨B,9,none⟩=some (.slice bd ds.length cd)/\w1.cell? ⟨B,10,none⟩=some (.int .i64 x.uI)/\w1.cell? ⟨B,11,none⟩=some (.bool x.down)/\w1.cell? ⟨B,12,none⟩=some (.bool x.uH):=⟨(b1.cell (p:=⟨B,0,none⟩) hlB).trans k0,(b1.cell (p:=⟨B,1,none⟩) hlB).trans k1,(b1.cell (p:=⟨B,2,none⟩) hlB).trans k2,(b1.cell (p:=⟨B,3,none⟩) hlB).trans k3,(b1.cell (p:=⟨B,4,none⟩) hlB).trans k4,(b1.cell (p:=⟨B,5,none⟩) hlB).trans k5,(b1.cell (p:=⟨B,6,none⟩) hlB).trans k6,(b1.cell (p:=⟨B,7,none⟩) hlB).trans k7,(b1.cell (p:=⟨B,8,none⟩) hlB).trans k8,(b1.cell (p:=⟨B,9,none⟩) hlB).trans k9,(b1.cell (p:=⟨B,10,none⟩) hlB).trans k10,(b1.cell (p:=⟨B,11,none⟩) hlB).trans k11,(b1.cell (p:=⟨B,12,none⟩) hlB).trans k12⟩;have OW:=aa o1b;have B1:=aa b1;have z1:=b1.size;clear o1 o1b b1 b1' uF;go_wp2_with fail
 refine hK.out _ _ ?_ (fun uF=>?_)
 . exact hS1
 clear hK K;refine ab 8 uF ?_
 refine ab 9 uF ?_
 refine ab 10 uF ?_
 refine ab 11 uF ?_
 refine ab 12 uF ?_
 refine wpAnyH_done (by kernel_rfl) ?_ _
 clear uF hS hS1 k0 k1 k2 k3 k4 k5 k6 k7 k8 k9 k10 k11 k12 HM X;have HA1:=aa (HA.out.below B1.out);have MV1:=aa ((aI.refl B fm w).below B1.out);cases hwb:cQ x ms x.uG
 . have HV:Hid (iJ (x,ms)=(x,ms)/\kJ (x,ms)=5):=by unfold Hid;rw [HSA.out,HSC.out,hwb];exact ⟨rfl,rfl⟩
   clear hwb;go_wp2
   go_ret
   refine ⟨aP HV.out.2.symm,fm,?_,MV1.out⟩
   rw [HV.out.1];exact HA1.out
 have hwl:=mj hwb;have HV:Hid (iJ (x,ms)=(if (cJ (x,ms)).1.down=true then cJ (x,ms) else ({(cJ (x,ms)).1 with uG:=(cJ (x,ms)).1.uG+1},(cJ (x,ms)).2))/\kJ (x,ms)=pE (cJ (x,ms)).1.down):=by unfold Hid;rw [HSA.out,HSC.out,hwb];exact ⟨rfl,rfl⟩
 clear hwb HSA HSC;obtain ⟨hln,_⟩:=ae OW.out.rd;subst hln;obtain ⟨fw,mw,rw1⟩:=OW.out.mine;generalize de x ms x.uG=ps at mw OW hwl HSQ HSN ⊢;have hmp:m<ps.length:=by omega
 clear hwl;rcases (aO mw.rd).1.cases with h0|⟨gb,off,hgo,hgl,hcz⟩
 . omega
 subst hgo;have hcm:=hcz m hmp;generalize hy:ps.getD m 0=y at hcm HSQ HSN;have HY:=aa hy;clear hy;obtain ⟨bm,bd,cm,cd,X1,_⟩:=HA1.out;unfold aC at X1;obtain ⟨k0,k1,k2,k3,k4,k5,k6,k7,k8,k9,k10,k11,k12⟩:=X1.cells13;rw [HLO.out] at k4;have hT:w1.drew.cell? ⟨B,4,none⟩=some (.int .i64 (m:Int))/\w1.drew.cell? ⟨B,5,none⟩=some (.int .i64 x.uG)/\w1.drew.cell? ⟨gb,off+m,none⟩=some (.int .i64 y):=⟨k4,k5,hcm⟩;have i1:(0:Int)<=(m:Int):=by omega
 have i3:(m:Int)<(ps.length:Int):=by omega
 clear k0 k1 k2 k3 k6 k7 k8 k9 k10 k11 k12 hcz X1;go_wp2_with fail
 refine wp_region_held_drew (S:=fun w'=>w'.cell? ⟨B,4,none⟩=some (.int .i64 (m:Int))/\w'.cell? ⟨B,5,none⟩=some (.int .i64 x.uG)/\w'.cell? ⟨gb,off+m,none⟩=some (.int .i64 y)) (by kernel_rfl) ?_ (fun uF=>?_)
 . exact hT
 refine ab 0 uF ?_
 refine ab 1 uF ?_
 refine ab 2 uF ?_
 refine ab 3 uF ?_
 refine ab 4 uF ?_
 refine ab 5 uF ?_
 refine ab 6 uF ?_
 refine ab 7 uF ?_
 refine ab 8 uF ?_
 refine ab 10 uF ?_
 refine ab 11 uF ?_
 refine ab 12 uF ?_
 refine ab 13 uF ?_
 refine ab 14 uF ?_
 refine ab 15 uF ?_
 refine ab 16 uF ?_
 have bn:=ah w1 (.cells #[.int .i64 y] 3);have zn:(w1.alloc (.cells #[.int .i64 y] 3)).heap.size=w1.heap.size+1:=by simp
 have hT2:(w1.alloc (.cells #[.int .i64 y] 3)).drew.cell? ⟨B,4,none⟩=some (.int .i64 (m:Int))/\(w1.alloc (.cells #[.int .i64 y] 3)).drew.cell? ⟨B,5,none⟩=some (.int .i64 x.uG)/\(w1.alloc (.cells #[.int .i64 y] 3)).drew.cell? ⟨gb,off+m,none⟩=some (.int .i64 y):=⟨(bn.cell (p:=⟨B,4,none⟩) (show B<w1.heap.size by omega)).trans k4,(bn.cell (p:=⟨B,5,none⟩) (show B<w1.heap.size by omega)).trans k5,(bn.cell (p:=⟨gb,off+m,none⟩) hgl).trans hcm⟩;have osec:=bh (br.lit .i64 3 w1 [y] 1 #[.int .i64 y] rfl rfl (by unfold maxLen;omega));obtain ⟨fs,msec,rs⟩:=osec.mine;have HA2:=aa (HA1.out.below bn).drew;have MV2:=aa (MV1.out.below bn).drew;have MS:Hid (aA.Mine (w1.alloc (.cells #[.int .i64 y] 3)).drew [.slice (some ⟨w1.heap.size,0,none⟩) 1 1] [y] fs):=msec.below ((Below.refl _ _).drew);have hfl:=HA1.out.ltm.1;have hmw:=(mw.below bn);have MW:=aa (hmw.below ((Below.refl _ _).drew));have RW:=aa rw1;have zBs:B<(w1.alloc (.cells #[.int .i64 y] 3)).heap.size:=by omega
 have HPT:=aa (gN (w1.alloc (.cells #[.int .i64 y] 3)).drew B x ms ds fm fd HA2.out hf hM m hm (bp x.uG) (some ⟨w1.heap.size,0,none⟩) 1 1 [y] fs MS.out (fun hm'=>by have:=(rs _ hm').1;omega) (fun b hb hm'=>by have h1:=(rs b hb).1;have h2:=hfl b hm';omega) (by omega));clear osec msec rs bn hmw;refine tE (i:=9) (i':=17) (by kernel_rfl) rfl rfl (by kernel_rfl) (by kernel_rfl) (fun K hK=>?_) (fun K hK=>?_)
 . go_simp
   refine (aV _ x.uG).mono ?_
   rintro e w1d ⟨rfl,hwd⟩;subst hwd;clear uF;go_wp2_with fail
   refine hK.out _ _ ?_ (fun uF=>?_)
   . exact hT
   clear hK K uF;refine au (i:=17) (by kernel_rfl) rfl (by kernel_rfl) (fun K hK=>?_)
   go_simp
   refine hK.out _ _ ?_ (fun uF=>?_)
   . exact hT2
   clear hK K uF;refine au (i:=18) (by kernel_rfl) rfl (by kernel_rfl) (fun K hK=>?_)
   go_simp
   refine HPT.out.mono ?_
   rintro e w4 ⟨rfl,fm4,hA4,hMv4⟩;have MV4:=aa (MV2.out.trans hMv4);rw [←HSQ.out] at hA4;have hsn:dg x (cJ (x,ms)).1:=by rw [HSQ.out];exact HSN.out
   obtain ⟨d4,d5,_,d11,_,fz⟩:=gU hA4;have hT4:w4.cell? ⟨B,4,none⟩=some (.int .i64 (m:Int))/\w4.cell? ⟨B,5,none⟩=some (.int .i64 x.uG)/\w4.cell? ⟨gb,off+m,none⟩=some (.int .i64 y):=by
    refine ⟨?_,?_,?_⟩
    . rw [d4,hsn.2.2.2.1,HLO.out]
    . rw [d5,hsn.2.2.2.2.1]
    have hbw:=hMv4.mine MW.out (fun hm'=>by have:=(RW.out _ hm').1;omega) (fun b hb hm'=>by have h1:=(RW.out b hb).1;have h2:=hlm b hm';omega);rcases (aO hbw.rd).1.cases with h0|⟨gb2,off2,hgo2,_,hcz2⟩
    . omega
    simp at hgo2
    obtain ⟨rfl,rfl⟩:=hgo2;rw [hcz2 m hmp,HY.out]
   clear hMv4 HPT MV2 HA2;go_wp2_with fail
   refine hK.out _ _ ?_ (fun uF=>?_)
   . exact hT4
   clear hK K;refine wpAnyH_done (by kernel_rfl) ?_ _
   clear uF hT hT2 hT4 k4 k5 hcm;have hbq:(cJ (x,ms)).1.uG=x.uG:=hsn.2.2.2.2.1;generalize cJ (x,ms)=st at hA4 HV d4 d5 d11 hbq;obtain ⟨u,qs⟩:=st;dsimp only at hA4 HV d4 d5 d11 hbq
   have hwr:IntKind.i64.wrap (u.uG+1)=u.uG+1:=IntWalk.i64_in _ (by omega);clear hsn HSN HSQ hbq;cases hud:u.down
   . have HV2:Hid (iJ (x,ms)=({u with uG:=u.uG+1},qs)/\kJ (x,ms)=0):=by unfold Hid;rw [HV.out.1,HV.out.2,hud];exact ⟨rfl,rfl⟩
     rw [hud] at d11;have HA5:=aa (jf hA4 (u.uG+1));have MV5:=aa (MV4.out.trans (aI.set (B:=B) (j:=5) (fm:=fm4) (w:=w4) (.int .i64 (u.uG+1))));clear hud hA4 HV;go_wp2
     go_ret
     refine ⟨aP HV2.out.2.symm,fm4,?_,MV5.out⟩
     rw [HV2.out.1];exact HA5.out
   have HV2:Hid (iJ (x,ms)=(u,qs)/\kJ (x,ms)=6):=by unfold Hid;rw [HV.out.1,HV.out.2,hud];exact ⟨rfl,rfl⟩
   rw [hud] at d11;have HA5:=aa hA4;clear hud hA4 HV;go_wp2
   go_ret
   refine ⟨aP HV2.out.2.symm,fm4,?_,MV4.out⟩
   rw [HV2.out.1];exact HA5.out
 go_simp
 clear uF;refine hK.out _ _ ?_ (fun uF=>?_)
 . exact hT2
 clear hK K;refine au (i:=9) (by kernel_rfl) rfl (by kernel_rfl) (fun K hK=>?_)
 go_simp
 refine (aV _ x.uG).mono ?_
 rintro e w1d ⟨rfl,hwd⟩;subst hwd;clear uF;go_wp2_with fail
 refine hK.out _ _ ?_ (fun uF=>?_)
 . exact hT2
 clear hK K uF;refine au (i:=18) (by kernel_rfl) rfl (by kernel_rfl) (fun K hK=>?_)
 go_simp
 refine HPT.out.mono ?_
 rintro e w4 ⟨rfl,fm4,hA4,hMv4⟩;have MV4:=aa (MV2.out.trans hMv4);rw [←HSQ.out] at hA4;have hsn:dg x (cJ (x,ms)).1:=by rw [HSQ.out];exact HSN.out
 obtain ⟨d4,d5,_,d11,_,fz⟩:=gU hA4;have hT4:w4.cell? ⟨B,4,none⟩=some (.int .i64 (m:Int))/\w4.cell? ⟨B,5,none⟩=some (.int .i64 x.uG)/\w4.cell? ⟨gb,off+m,none⟩=some (.int .i64 y):=by
  refine ⟨?_,?_,?_⟩
  . rw [d4,hsn.2.2.2.1,HLO.out]
  . rw [d5,hsn.2.2.2.2.1]
  have hbw:=hMv4.mine MW.out (fun hm'=>by have:=(RW.out _ hm').1;omega) (fun b hb hm'=>by have h1:=(RW.out b hb).1;have h2:=hlm b hm';omega);rcases (aO hbw.rd).1.cases with h0|⟨gb2,off2,hgo2,_,hcz2⟩
  . omega
  simp at hgo2
  obtain ⟨rfl,rfl⟩:=hgo2;rw [hcz2 m hmp,HY.out]
 clear hMv4 HPT MV2 HA2;go_wp2_with fail
 refine hK.out _ _ ?_ (fun uF=>?_)
 . exact hT4
 clear hK K;refine wpAnyH_done (by kernel_rfl) ?_ _
 clear uF hT hT2 hT4 k4 k5 hcm;have hbq:(cJ (x,ms)).1.uG=x.uG:=hsn.2.2.2.2.1;generalize cJ (x,ms)=st at hA4 HV d4 d5 d11 hbq;obtain ⟨u,qs⟩:=st;dsimp only at hA4 HV d4 d5 d11 hbq
 have hwr:IntKind.i64.wrap (u.uG+1)=u.uG+1:=IntWalk.i64_in _ (by omega);clear hsn HSN HSQ hbq;cases hud:u.down
 . have HV2:Hid (iJ (x,ms)=({u with uG:=u.uG+1},qs)/\kJ (x,ms)=0):=by unfold Hid;rw [HV.out.1,HV.out.2,hud];exact ⟨rfl,rfl⟩
   rw [hud] at d11;have HA5:=aa (jf hA4 (u.uG+1));have MV5:=aa (MV4.out.trans (aI.set (B:=B) (j:=5) (fm:=fm4) (w:=w4) (.int .i64 (u.uG+1))));clear hud hA4 HV;go_wp2
   go_ret
   refine ⟨aP HV2.out.2.symm,fm4,?_,MV5.out⟩
   rw [HV2.out.1];exact HA5.out
 have HV2:Hid (iJ (x,ms)=(u,qs)/\kJ (x,ms)=6):=by unfold Hid;rw [HV.out.1,HV.out.2,hud];exact ⟨rfl,rfl⟩
 rw [hud] at d11;have HA5:=aa hA4;clear hud hA4 HV;go_wp2
 go_ret
 refine ⟨aP HV2.out.2.symm,fm4,?_,MV4.out⟩
 rw [HV2.out.1];exact HA5.out
def AllSt (w:World) (B:Nat) (fm fd:List Nat) (q0:al×List ai) (ds:List aE) (n:Nat) (wr:World):Prop:=
 ∃(q:al×List ai) (es:List aE) (fm' fd':List Nat),es.length<=n/\aD wr B q.1 q.2 es fm' fd'/\fv q es=fv q0 ds/\aK q.2<=max (aK q0.2) 10005/\aY es<=aY ds/\aq (B :: (fm++fd)) w wr/\∀b,b∈fm'∨b∈fd'->b∈fm∨b∈fd∨w.heap.size<=b
theorem pL {w wr w':World} {B:Nat} {fm fd fm' fd':List Nat} {y:al} {ns:List ai} {es:List aE} (hT:aq (B :: (fm++fd)) w wr) (hN:∀b,b∈fm'∨b∈fd'->b∈fm∨b∈fd∨w.heap.size<=b) (h:Fl8 wr B fm' fd' y ns es w'):Fl8 w B fm fd y ns es w':=by
 obtain ⟨fm2,fd2,hA,hT2,hN2⟩:=h;have hs:=hT.size;refine ⟨fm2,fd2,hA,⟨hT2.os.trans hT.os,hT2.tape.trans hT.tape,hT2.output.trans hT.output,Nat.le_trans hT.size hT2.size,fun k hk hf=>?_⟩,fun b hb=>?_⟩
 . rw [hT2.block k (by omega) (fun hm=>?_),hT.block k hk hf]
   simp only [List.mem_cons,List.mem_append] at hm hf
   rcases hm with h|h
   . exact hf (.inl h)
   rcases hN k h with h|h|h
   . exact hf (.inr (.inl h))
   . exact hf (.inr (.inr h))
   omega
 rcases hN2 b hb with h|h|h
 . exact hN b (.inl h)
 . exact hN b (.inr h)
 exact .inr (.inr (by omega))
theorem sm (w:World) (B:Nat) (x:al) (ms:List ai) (ds:List aE) (fm fd:List Nat) (h:aD w B x ms ds fm fd) (hw:aM ms ds<=1900000):
 Calls Tryz.prog 70 #[.pointer (some ⟨B,0,none⟩)] w fun e w'=>e=.returned (.int .i64 (fv (x,ms) ds).2.2)/\Fl8 w B fm fd (fv (x,ms) ds).1.1 (fv (x,ms) ds).1.2 (fv (x,ms) ds).2.1 w':=by
 have HA:=aa h;have hlB:=h.lt;unfold aM at hw;clear h;go_enter Tryz.func70,Tryz.ntmps70
 go_wp2
 go_loopg [3] ds.length (fun kx _ wr=>AllSt w B fm fd (x,ms) ds kx wr)
 case atStart=>exact ⟨(x,ms),ds,fm,fd,Nat.le_refl _,HA.out,rfl,Nat.le_max_left _ _,Nat.le_refl _,aq.refl _ _,fun _ h=>h.elim .inl (fun h=>.inr (.inl h))⟩
 obtain ⟨q,es,fm1,fd1,hk,hA,hR,hw1,hw2,hT,hN⟩:=hrel;have hw3:aM q.2 es<=2097152:=by unfold aM;have h9:aK q.2<=max (aK ms) 10005:=hw1;omega
 have HAW:=aa hA;obtain ⟨bm,bd,cm,cd,X,hm,hd,hr,r1,r2⟩:=hA;have k9:wr.cell? ⟨B,9,none⟩=some (.slice bd es.length cd):=by unfold aC at X;exact X.cells13.2.2.2.2.2.2.2.2.2.1
 have hcd:=(ae hd.rd).2;have HT:=aa hT;have HN:=aa hN;have HR:=aa hR;have HW1:=aa hw1;have HW2:=aa hw2;cases es with
 | nil=>
  have HF:Hid (Fl8 w B fm fd (fv (x,ms) ds).1.1 (fv (x,ms) ds).1.2 (fv (x,ms) ds).2.1 wr/\(fv (x,ms) ds).2.2=0):=by
   unfold Hid;rw [←hR];exact ⟨⟨fm1,fd1,HAW.out,hT,hN⟩,rfl⟩
  clear X hm hd hr r1 r2 hT hN hR HAW;rw [List.length_nil] at k9 hcd;go_wp2
  go_ret
  exact ⟨aP HF.out.2.symm,HF.out.1⟩
 | cons e es=>
  obtain ⟨g,rfl⟩:=bG hd (by simp);obtain ⟨fps,e1,e2,e3,e4⟩:=jF hd;obtain ⟨f,g',av,cv,hf,hg',hgl,hgd,hgf,v0,v1,hmd⟩:=e4 0 e rfl;simp only [Option.some.injEq,Addr.mk.injEq,and_true] at hg'
  subst hg';have v0':wr.cell? ⟨g,0,none⟩=some (.int .i64 e.1):=by simpa using v0
  have HLF:=aa (kC wr B q.1 q.2 (e :: es) fm1 fd1 HAW.out hw3 e.1);have HST:=aa (fun h0=>(ny (q:=q) (e:=e) (es:=es) h0).symm.trans hR);have HSP:=aa (fun h0=>(nz (q:=q) (e:=e) (es:=es) h0).symm.trans hR);have HFD:=aa (rt (q:=q) (e:=e) (es:=es));have HWT:=aa (ut q (e :: es) e.1);have HDR:Hid (aY es<=aY (e :: es)):=pb (e :: es) 0;obtain ⟨y,ys⟩:=e;simp only at v0'
  generalize hEL:(((y,ys):aE) :: es).length=el at k9 hcd hk;have hel:0<el/\es.length<el/\es.length+1<=el:=by rw [←hEL];simp
  have k1:(0:Int)<(el:Int):=by omega
  have k2:(el:Int)>0:=by omega
  clear X hm hd hr r1 r2 hT hN hR HAW e1 e2 e3 e4 hf hmd v0 v1 hw1 hw2 hEL;go_wp2_with fail
  refine HLF.out.mono ?_
  rintro e w2 ⟨rfl,hF⟩;rw [HFD.out] at hF;generalize hfc:fY q.1 q.2 (((y,ys):aE) :: es) y=fc at HST HSP HFD hF ⊢;have HFC:Hid (fY q.1 q.2 (((y,ys):aE) :: es) ((y,ys):aE).1=fc):=hfc;clear hfc;by_cases h0:fc=0
  . subst h0
    rw [if_pos rfl] at hF;have HF:=aa (pL HT.out HN.out hF);have HR2:=aa (HST.out rfl);clear hF;go_wp2
    go_roundg es.length
    case measure=>omega
    obtain ⟨fm2,fd2,hA2,hT2,hN2⟩:=HF.out;refine ⟨eA q.1 q.2 (((y,ys):aE) :: es) y,es,fm2,fd2,Nat.le_refl _,hA2,HR2.out,?_,Nat.le_trans HDR.out HW2.out,hT2,hN2⟩
    have h1:=HWT.out;have h2:aK q.2<=max (aK ms) 10005:=HW1.out;have h3:aK (eA q.1 q.2 (((y,ys):aE) :: es) y).2<=max (aK q.2) 10005:=h1;show aK (eA q.1 q.2 (((y,ys):aE) :: es) y).2<=max (aK ms) 10005
    omega
  rw [if_neg h0] at hF;have HF:Hid (Fl8 w B fm fd (fv (x,ms) ds).1.1 (fv (x,ms) ds).1.2 (fv (x,ms) ds).2.1 w2/\(fv (x,ms) ds).2.2=fc):=by
   unfold Hid;rw [←HSP.out h0];exact ⟨pL HT.out HN.out hF,rfl⟩
  have e0:(fc !=0)=true:=by simpa using h0
  clear hF h0;go_wp2
  go_ret
  exact ⟨aP HF.out.2.symm,HF.out.1⟩
end Go.Proofs.YtejokiafgbjdaaaGreat
