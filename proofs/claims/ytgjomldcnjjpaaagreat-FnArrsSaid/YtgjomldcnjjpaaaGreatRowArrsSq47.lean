/-
 The specification's l8All and FlushAll walked. Condition: the array weighs at most 1900000.
-/
import Derived.Test.YtgjomldcnjjpaaaGreatRowArrsSq45
import Derived.Test.YtgjomldcnjjpaaaGreatRowArrsSq40
import Derived.Test.YtgjomldcnjjpaaaGreatRowArrsSq26
import Derived.Test.YtgjomldcnjjpaaaGreatRowArrsSq4
import Derived.Test.YtgjomldcnjjpaaaGreatRowArrsSq16
import Derived.Test.YtgjomldcnjjpaaaGreatRowArrsSq34
import Derived.Test.YtgjomldcnjjpaaaGreatRowArrsSq14
import Derived.Deep.LoopGhost

set_option maxRecDepth 100000
set_option maxHeartbeats 8000000
set_option linter.unusedSimpArgs false

namespace Go.Proofs.YtgjomldcnjjpaaaGreat
open Go.RowKit

def kZ (x:aq):Prop:=x.down=false/\x.xY=-1
theorem wF {x:aq} (h:kZ x):opX x=x/\opB x=true:=by
 unfold opX opB;rw [h.1,h.2];simp
def le (ms ms':List ai):Prop:=ms'.length=ms.length/\∀(i:Nat) (d d':ai),ms[i]?=some d->ms'[i]?=some d'->d'.1.length=d.1.length/\d'.2.2.1=d.2.2.1
theorem le.refl (ms:List ai):le ms ms:=⟨rfl,fun i d d' h h'=>by rw [h] at h';cases h';exact ⟨rfl,rfl⟩⟩
theorem le.trans {a b c:List ai} (h:le a b) (k:le b c):le a c:=
 ⟨k.1.trans h.1,fun i d d' h1 h2=>by
  have hi:=(List.getElem?_eq_some_iff.1 h1).1;have hb:=List.getElem?_eq_getElem (show i<b.length by rw [h.1];exact hi);obtain ⟨a1,a2⟩:=h.2 i d _ h1 hb;obtain ⟨b1,b2⟩:=k.2 i _ d' hb h2;exact ⟨b1.trans a1,b2.trans a2⟩⟩
def fW (q q':aq×List ai):Prop:=q'.1=q.1/\le q.2 q'.2/\(dh q.2->dh q'.2)
theorem fW.refl (q:aq×List ai):fW q q:=⟨rfl,le.refl _,fun h=>h⟩
theorem fW.trans {a b c:aq×List ai} (h:fW a b) (k:fW b c):fW a c:=⟨k.1.trans h.1,h.2.1.trans k.2.1,fun m=>k.2.2 (h.2.2 m)⟩
theorem fW.idle {a b:aq×List ai} (h:fW a b) (hi:kZ a.1):kZ b.1:=by rw [h.1];exact hi
theorem sg {q:aq×List ai} (h:kZ q.1) (i:Nat) (f:ai->ai) (hf:∀d:ai,(f d).1.length=d.1.length/\(f d).2.2.1=d.2.2.1) (hm:∀d:ai,bF d.1 d.2.1 d.2.2.2=true->bF (f d).1 (f d).2.1 (f d).2.2.2=true):fW q (doS q i f):=by
 refine ⟨?_,⟨kW q i f,fun j d d' h1 h2=>?_⟩,fun m=>tq m hm⟩
 . unfold doS
   split
   . rfl
   rw [(wF h).1];split<;>rfl
 unfold doS at h2;split at h2
 . rw [h1] at h2;cases h2;exact ⟨rfl,rfl⟩
 split at h2
 . by_cases hij:i=j
   . subst hij
     have hi:=(List.getElem?_eq_some_iff.1 h1).1;rw [List.getElem?_set_self hi,iM h1] at h2;cases h2;exact hf d
   rw [List.getElem?_set_ne hij,h1] at h2;cases h2;exact ⟨rfl,rfl⟩
 rw [h1] at h2;cases h2;exact ⟨rfl,rfl⟩
theorem uV (d:ai):(flM d).1.length=d.1.length/\(flM d).2.2.1=d.2.2.1:=by
 refine ⟨?_,rfl⟩
 show (gW d.1 d.2.1 d.2.2.1 d.2.2.2).length=_
 unfold gW;split
 . exact cD _ _
 rfl
theorem jw {q:aq×List ai} (h:kZ q.1) (i:Nat) (n:Int) (s:List Int):fW q (gT q i n s):=sg h i _ (fun _=>⟨rfl,rfl⟩) (wh n s)
theorem iQ {q:aq×List ai} (h:kZ q.1):∀j,fW q (cC q j)
 | 0=>fW.refl q
 | j+1=>by
  rw [jS];have ih:=iQ h j;exact ih.trans (sg (ih.idle h) j flM uV wj)
theorem ov {q:aq×List ai} (h:kZ q.1):∀j,fW q (fR q j)
 | 0=>fW.refl q
 | j+1=>by
  rw [jT];have ih:=ov h j;exact ih.trans (jw (ih.idle h) j _ _)
theorem oA {q:aq×List ai} (h:kZ q.1) (n:Int) (s:List Int):∀j,fW q (fC q n s j)
 | 0=>fW.refl q
 | j+1=>by
  have e:fC q n s (j+1)=gT (fC q n s j) j n s:=by unfold fC;rw [List.range_succ,List.foldl_append];rfl
  rw [e];have ih:=oA h n s j;exact ih.trans (jw (ih.idle h) j _ _)
theorem mH {q:aq×List ai} (h:kZ q.1) (s p:Int) (zs:List Int):∀j,fW q (bO q s p zs j)
 | 0=>fW.refl q
 | j+1=>by
  have e:bO q s p zs (j+1)=if dC (bO q s p zs j).1 (bO q s p zs j).2 (j:Int) s=true then gT (bO q s p zs j) j (bE s) [kX (bO q s p zs j).1.n p zs j] else bO q s p zs j:=by unfold bO;rw [List.range_succ,List.foldl_append];rfl
  rw [e];have ih:=mH h s p zs j;split
  . exact ih.trans (jw (ih.idle h) j _ _)
  exact ih
theorem oB {q:aq×List ai} (h:kZ q.1):fW ({q.1 with gen:=q.1.gen+1},q.2) (ge q):=by
 have h1:=ov (q:=({q.1 with gen:=q.1.gen+1},q.2)) h q.2.length;exact h1.trans (iQ (h1.idle h) _)
theorem mI {q:aq×List ai} (h:kZ q.1):fW ({q.1 with tail:=q.1.seq,gen:=q.1.gen+1},q.2) (et q):=by
 have h1:=iQ (q:=q) h q.2.length;have hi:=h1.idle h;unfold et;rw [if_neg (by rw [hi.1];simp)];have h2:=oB (q:=({(cC q q.2.length).1 with tail:=(cC q q.2.length).1.seq},(cC q q.2.length).2)) hi;refine ⟨?_,h1.2.1.trans h2.2.1,fun m=>h2.2.2 (h1.2.2 m)⟩
 rw [h2.1];show ({(cC q q.2.length).1 with tail:=(cC q q.2.length).1.seq,gen:=(cC q q.2.length).1.gen+1}:aq)=_
 rw [h1.1]
def ic (x:aq):aq:=if 4<=x.seq-x.tail then {x with tail:=x.seq,gen:=x.gen+1,seq:=x.seq+1} else {x with seq:=x.seq+1}
theorem si {q:aq×List ai} (h:kZ q.1) (s:Int) (zs:List Int):fW (ic q.1,q.2) (aZ q s zs):=by
 have k1:fW ((if 4<=q.1.seq-q.1.tail then {q.1 with tail:=q.1.seq,gen:=q.1.gen+1} else q.1:aq),q.2) (wr1 q):=by
  unfold wr1;split
  . exact mI h
  exact fW.refl q
 have hi1:kZ (wr1 q).1:=by
  rw [k1.1];split
  . exact h
  exact h
 have k2:fW (wr1 q) (wr2 (wr1 q) s zs):=by
  unfold wr2 tr;have h1:=oA hi1 (fY (wr1 q).1.seq) (lO (wr1 q).1.seq s zs) (wr1 q).2.length;exact h1.trans (iQ (h1.idle hi1) _)
 have hi2:=k2.idle hi1;unfold aZ;rw [if_neg (by rw [hi1.1];simp)];unfold qP;rw [if_neg (by rw [hi2.1];simp)];unfold wr3;have k3:=mH (q:=({(wr2 (wr1 q) s zs).1 with seq:=(wr2 (wr1 q) s zs).1.seq+1},(wr2 (wr1 q) s zs).2)) hi2 s (eS (wr2 (wr1 q) s zs).1.n (wr2 (wr1 q) s zs).1.s s) zs (wr2 (wr1 q) s zs).2.length;refine ⟨?_,(k1.2.1.trans k2.2.1).trans k3.2.1,fun m=>k3.2.2 (k2.2.2 (k1.2.2 m))⟩
 rw [k3.1];show ({(wr2 (wr1 q) s zs).1 with seq:=(wr2 (wr1 q) s zs).1.seq+1}:aq)=ic q.1
 rw [k2.1,k1.1];unfold ic;split<;>rfl
theorem lf {x:aq} {ds:List aH}:ey x ds=true ↔ (∀(i:Nat) (e:aH),ds[i]?=some e->inB e.1 0 (x.s-1)=true/\(e.2.length:Int)=x.n-1/\dg e.2=true)/\∀(i j:Nat) (e e':aH),i<j->ds[i]?=some e->ds[j]?=some e'->e.1<e'.1:=by
 unfold ey;rw [dR];constructor
 . intro he
   have h1:∀(i:Nat) (e e':aH),ds[i]?=some e->ds[i+1]?=some e'->e.1<e'.1:=fun i e e' h h'=>by
    have:=he (i+1) e' h';unfold dI at this;simp only [Bool.and_eq_true,Bool.or_eq_true,decide_eq_true_eq,Nat.add_sub_cancel] at this
    rcases this.2.2.2 with h0|h0
    . omega
    rw [List.getD_eq_getElem?_getD,h] at h0;exact h0
   refine ⟨fun i e h=>?_,fun i j=>?_⟩
   . have:=he i e h
     unfold dI at this;simp only [Bool.and_eq_true,decide_eq_true_eq] at this
     exact ⟨this.1,this.2.1,this.2.2.1⟩
   induction j with
   | zero=>intro e e' h;omega
   | succ j ih=>
    intro e e' hij h h';by_cases hj:i=j
    . subst hj
      exact h1 i e e' h h'
    have hjl:=(List.getElem?_eq_some_iff.1 h').1;have hjj:=List.getElem?_eq_getElem (show j<ds.length by omega);have a1:=ih e _ (by omega) h hjj;have a2:=h1 j _ e' hjj h';omega
 rintro ⟨h1,h2⟩ i e he;unfold dI;obtain ⟨a1,a2,a3⟩:=h1 i e he;simp only [Bool.and_eq_true,Bool.or_eq_true,decide_eq_true_eq]
 refine ⟨a1,a2,a3,?_⟩
 by_cases hi:i=0
 . exact .inl hi
 have hl:=(List.getElem?_eq_some_iff.1 he).1;have hp:=List.getElem?_eq_getElem (show i-1<ds.length by omega);refine .inr ?_
 rw [List.getD_eq_getElem?_getD,hp];exact h2 (i-1) i _ e (by omega) hp he
theorem wG {x:aq} {ds es:List aH} (h:ey x ds=true) (f:Nat->Nat) (hf:∀i j,i<j->f i<f j) (he:∀i e,es[i]?=some e->ds[f i]?=some e):ey x es=true:=by
 rw [lf] at h ⊢;exact ⟨fun i e h'=>h.1 _ e (he i e h'),fun i j e e' hij h1 h2=>h.2 _ _ e e' (hf i j hij) (he i e h1) (he j e' h2)⟩
theorem sj {x:aq} {ds:List aH} (h:ey x ds=true) (k:Nat) (hk:k<=ds.length):ey x (ds.take k++ds.drop (k+1))=true:=by
 refine wG h (fun i=>if i<k then i else i+1) (fun i j hij=>?_) (fun i e he=>?_)
 . split<;>split<;>omega
 skip
 have e1:(ds.take k).length=k:=by simp;omega
 by_cases hi:i<k
 . rw [if_pos hi]
   rw [List.getElem?_append_left (by omega),List.getElem?_take,if_pos hi] at he;exact he
 rw [if_neg hi];rw [List.getElem?_append_right (by omega),e1,List.getElem?_drop,show k+1+(i-k)=i+1 by omega] at he;exact he
theorem iH {x:aq} {ms ms':List ai} (h:cI x ms=true) (hs:le ms ms') (hm:dh ms'):cI x ms'=true:=by
 rw [eg] at h ⊢;refine ⟨fun i d hd=>?_,by rw [hs.1];exact h.2⟩
 have hi:=(List.getElem?_eq_some_iff.1 hd).1;have h0:=List.getElem?_eq_getElem (show i<ms.length by rw [←hs.1];exact hi);obtain ⟨a1,a2,a3⟩:=h.1 i _ h0;obtain ⟨b1,b2⟩:=hs.2 i _ d h0 hd;exact ⟨hm i d hd,by rw [b1];exact a2,fun hf=>a3 (by rw [←b2];exact hf)⟩
theorem oD {x:aq} {ms:List ai} (h:cI x ms=true):dh ms:=fun i d hd=>((eg.1 h).1 i d hd).1
def cG (G:Int) (q:aq×List ai) (ds:List aH):Prop:=bf q.1 q.2 ds=true/\kZ q.1/\q.1.xX=false/\q.1.gen<=G/\q.1.seq<=G
theorem tv {G:Int} {q:aq×List ai} {ds:List aH} (h:cG G q ds) (hG:G<59000):cG (G+1) (et q) ds:=by
 obtain ⟨ha,hi,hb,h1,h2⟩:=h;have k:=mI (q:=q) hi;obtain ⟨p1,p2,p3,p4,p5,p6⟩:=bD.1 ha;have p6':=gl.1 p6;refine ⟨bD.2 ?_,k.idle hi,?_,?_,?_⟩
 . rw [k.1]
   refine ⟨p1,p2,iH p3 k.2.1 (k.2.2 (oD p3)),p4,p5,gl.2 ?_⟩
   show (0<=q.1.seq/\q.1.seq<=60000)/\(q.1.seq<=q.1.seq/\q.1.seq<=60000)/\q.1.seq<=q.1.seq+4/\(0<=q.1.gen+1/\q.1.gen+1<=60000)/\-1<=q.1.xY/\q.1.xY<=1000
   omega
 . rw [k.1];exact hb
 . rw [k.1];show q.1.gen+1<=G+1;omega
 rw [k.1];show q.1.seq<=G+1;omega
theorem oE {G:Int} {q:aq×List ai} {ds:List aH} (h:cG G q ds) (t:Int):cG (G+1) (fu q.1 q.2 ds t) (jV q.1 q.2 ds t):=by
 obtain ⟨ha,hi,hb,h1,h2⟩:=h;obtain ⟨p1,p2,p3,p4,p5,p6⟩:=bD.1 ha;have p6':=gl.1 p6;have hsame:cG (G+1) (q.1,q.2) ds:=⟨ha,hi,hb,by show q.1.gen<=G+1;omega,by show q.1.seq<=G+1;omega⟩;rcases iA ds t with hat|⟨k,d,hat,hk,hdt⟩
 . obtain ⟨_,e2,e3⟩:=xQ (x:=q.1) (ms:=q.2) hat
   rw [e2,e3];exact hsame
 obtain ⟨y,ys⟩:=d;simp only at hdt
 subst hdt;obtain ⟨e1,e2,e3⟩:=uc (x:=q.1) (ms:=q.2) hat hk;rw [e2,e3];by_cases hc:dm q.1 q.2 ds y ys=0
 . obtain ⟨_,_,_,_,_,_,hsq,hgn⟩:=lP hc
   have hO:eF q.1 q.2 ds y ys=aZ (q.1,q.2) y ys:=by unfold eF;rw [if_pos hc]
   have kk:=si (q:=(q.1,q.2)) hi y ys;have hkl:=(List.getElem?_eq_some_iff.1 hk).1;have hC:dW q.1 q.2 ds y ys=0:=by
    unfold dW;rw [if_pos hc,if_neg];have:(aZ (q.1,q.2) y ys).1.down=false:=by rw [kk.1];unfold ic;split<;>exact hi.1
    rw [this];simp
   rw [hO,if_pos hC];have hx:(aZ (q.1,q.2) y ys).1=ic q.1:=kk.1;refine ⟨bD.2 ?_,?_,?_,?_,?_⟩
   . rw [hx]
     unfold ic;split
     . refine ⟨p1,p2,iH p3 kk.2.1 (kk.2.2 (oD p3)),sj p4 k (by omega),p5,gl.2 ?_⟩
       show (0<=q.1.seq/\q.1.seq<=60000)/\(q.1.seq<=q.1.seq+1/\q.1.seq+1<=60000)/\q.1.seq+1<=q.1.seq+4/\(0<=q.1.gen+1/\q.1.gen+1<=60000)/\-1<=q.1.xY/\q.1.xY<=1000
       omega
     refine ⟨p1,p2,iH p3 kk.2.1 (kk.2.2 (oD p3)),sj p4 k (by omega),p5,gl.2 ?_⟩
     show (0<=q.1.tail/\q.1.tail<=60000)/\(q.1.tail<=q.1.seq+1/\q.1.seq+1<=60000)/\q.1.seq+1<=q.1.tail+4/\(0<=q.1.gen/\q.1.gen<=60000)/\-1<=q.1.xY/\q.1.xY<=1000
     omega
   . rw [hx];unfold ic;split<;>exact hi
   . rw [hx];unfold ic;split<;>exact hb
   . rw [hx];unfold ic
     split
     . show q.1.gen+1<=G+1;omega
     show q.1.gen<=G+1;omega
   rw [hx];unfold ic;split
   . show q.1.seq+1<=G+1;omega
   show q.1.seq+1<=G+1;omega
 have hO:eF q.1 q.2 ds y ys=(q.1,q.2):=by unfold eF;rw [if_neg hc]
 have hC:¬dW q.1 q.2 ds y ys=0:=by unfold dW;rw [if_neg hc];exact hc
 rw [hO,if_neg hC];exact hsame
theorem qh:∀(ds:List aH) {G:Int} {q:aq×List ai},cG G q ds->cG (G+ds.length) (xZ q ds).1 (xZ q ds).2.1
 | [],G,q,h=>by
  show cG (G+((0:Nat):Int)) q []
  rw [show G+((0:Nat):Int)=G by omega];exact h
 | e :: es,G,q,h=>by
  have h1:=oE h e.1;rw [ud] at h1;by_cases hc:gX q.1 q.2 (e :: es) e.1=0
  . rw [if_pos hc] at h1
    rw [qf hc];have h2:=qh es h1;have e1:G+1+(es.length:Int)=G+((e :: es).length:Int):=by simp;omega
    rw [e1] at h2;exact h2
  rw [if_neg hc] at h1;rw [qg hc];obtain ⟨a1,a2,a3,a4,a5⟩:=h1;refine ⟨a1,a2,a3,?_,?_⟩
  . show _<=G+((e :: es).length:Int)
    have:(1:Int)<=((e :: es).length:Int):=by simp;omega
    exact Int.le_trans a4 (by omega)
  show _<=G+((e :: es).length:Int)
  have:(1:Int)<=((e :: es).length:Int):=by simp;omega
  exact Int.le_trans a5 (by omega)
def dp (q:aq×List ai):aq×List ai:=gT q q.1.lost.toNat (bE q.1.xW) [(dc q.1 q.2 q.1.xW).getD q.1.lost.toNat 0]
def jo (q:aq×List ai):aq×List ai:=if cV q.1 q.2 q.1.xW=true then (if (dp q).1.down=true then dp q else ({(dp q).1 with xW:=(dp q).1.xW+1},(dp q).2)) else q
def mJ (q:aq×List ai):Int:=if cV q.1 q.2 q.1.xW=true then sn (dp q).1.down else 5
theorem sp (w:World) (B:Nat) (x:aq) (ms:List ai) (ds:List (Int×List Int)) (fm fd:List Nat) (h:aK w B x ms ds fm fd) (hf:x.xY<=1000) (hM:dh ms) (hg:bL x.n x.s=true) (hwm:aQ ms<=2097152) (m:Nat) (hlo:x.lost=(m:Int)) (hm:m<ms.length) (hml:(m:Int)<x.n) (hbu:0<=x.xW/\x.xW<=100):
 Calls Tryz.prog 116 #[.pointer (some ⟨B,0,none⟩)] w fun e w'=>e=.returned (.int .i64 (mJ (x,ms)))/\∃fm',aK w' B (jo (x,ms)).1 (jo (x,ms)).2 ds fm' fd/\aT B fm w fm' w':=by
 obtain ⟨g1,g2,g3,g4⟩:=aB.1 hg;have HA:=aa h;have hlB:=h.lt;have hlm:=h.ltm.1;have HSC:Hid (mJ (x,ms)=if cV x ms x.xW=true then sn (dp (x,ms)).1.down else 5):=rfl;have HSA:Hid (jo (x,ms)=if cV x ms x.xW=true then (if (dp (x,ms)).1.down=true then dp (x,ms) else ({(dp (x,ms)).1 with xW:=(dp (x,ms)).1.xW+1},(dp (x,ms)).2)) else (x,ms)):=rfl;have HSQ:Hid (dp (x,ms)=gT (x,ms) m (bE x.xW) [(dc x ms x.xW).getD m 0]):=by unfold Hid dp;dsimp only;rw [hlo,Int.toNat_natCast]
 have HSN:=aa (iE (q:=(x,ms)) m (fun d=>wrM d (bE x.xW) [(dc x ms x.xW).getD m 0]) hf);obtain ⟨bm,bd,cm,cd,X,hmm,hdd,hr,r1,r2⟩:=h;unfold bH at X;obtain ⟨k0,k1,k2,k3,k4,k5,k6,k7,k8,k9,k10,k11,k12⟩:=X.cells13;have HM:=aa hmm.rd;have HLO:=aa hlo;clear hlo;have hS:w.drew.cell? ⟨B,0,none⟩=some (.int .i64 x.id)/\w.drew.cell? ⟨B,1,none⟩=some (.int .i64 x.n)/\w.drew.cell? ⟨B,2,none⟩=some (.int .i64 x.s)/\w.drew.cell? ⟨B,3,none⟩=some (.slice bm ms.length cm)/\w.drew.cell? ⟨B,4,none⟩=some (.int .i64 x.lost)/\w.drew.cell? ⟨B,5,none⟩=some (.int .i64 x.xW)/\w.drew.cell? ⟨B,6,none⟩=some (.int .i64 x.seq)/\w.drew.cell? ⟨B,7,none⟩=some (.int .i64 x.tail)/\w.drew.cell? ⟨B,8,none⟩=some (.int .i64 x.gen)/\w.drew.cell? ⟨B,9,none⟩=some (.slice bd ds.length cd)/\w.drew.cell? ⟨B,10,none⟩=some (.int .i64 x.xY)/\w.drew.cell? ⟨B,11,none⟩=some (.bool x.down)/\w.drew.cell? ⟨B,12,none⟩=some (.bool x.xX):=⟨k0,k1,k2,k3,k4,k5,k6,k7,k8,k9,k10,k11,k12⟩;clear hmm hdd hr r1 r2;go_enter Tryz.func116,Tryz.ntmps116
 go_wp2_with fail
 refine wp_region_held_drew (S:=fun w'=>w'.cell? ⟨B,0,none⟩=some (.int .i64 x.id)/\w'.cell? ⟨B,1,none⟩=some (.int .i64 x.n)/\w'.cell? ⟨B,2,none⟩=some (.int .i64 x.s)/\w'.cell? ⟨B,3,none⟩=some (.slice bm ms.length cm)/\w'.cell? ⟨B,4,none⟩=some (.int .i64 x.lost)/\w'.cell? ⟨B,5,none⟩=some (.int .i64 x.xW)/\w'.cell? ⟨B,6,none⟩=some (.int .i64 x.seq)/\w'.cell? ⟨B,7,none⟩=some (.int .i64 x.tail)/\w'.cell? ⟨B,8,none⟩=some (.int .i64 x.gen)/\w'.cell? ⟨B,9,none⟩=some (.slice bd ds.length cd)/\w'.cell? ⟨B,10,none⟩=some (.int .i64 x.xY)/\w'.cell? ⟨B,11,none⟩=some (.bool x.down)/\w'.cell? ⟨B,12,none⟩=some (.bool x.xX)) (by kernel_rfl) ?_ (fun xV=>?_)
 . exact hS
 refine ae 0 xV ?_
 refine ae 1 xV ?_
 refine ae 2 xV ?_
 refine ae 3 xV ?_
 refine ae 4 xV ?_
 refine ae 5 xV ?_
 refine ae 6 xV ?_
 refine aw (i:=7) (by kernel_rfl) rfl (by kernel_rfl) (fun K hK=>?_)
 go_simp
 refine (mn _ 119 55 x _ _ _ _ _ _ ms x.xW HM.out.drew hwm hg).mono ?_
 rintro e w1 ⟨a1,l1,c1,rfl,o1,b1'⟩;have b1:Below w.heap.size w w1:=(Below.refl w.heap.size w).drew.trans b1';have o1b:aD.Own w1 w.heap.size w1.heap.size [.slice a1 l1 c1] (dc x ms x.xW):=o1;have hS1:w1.cell? ⟨B,0,none⟩=some (.int .i64 x.id)/\w1.cell? ⟨B,1,none⟩=some (.int .i64 x.n)/\w1.cell? ⟨B,2,none⟩=some (.int .i64 x.s)/\w1.cell? ⟨B,3,none⟩=some (.slice bm ms.length cm)/\w1.cell? ⟨B,4,none⟩=some (.int .i64 x.lost)/\w1.cell? ⟨B,5,none⟩=some (.int .i64 x.xW)/\w1.cell? ⟨B,6,none⟩=some (.int .i64 x.seq)/\w1.cell? ⟨B,7,none⟩=some (.int .i64 x.tail)/\w1.cell? ⟨B,8,none⟩=some (.int .i64 x.gen)/\w1.cell? ⟨B,9,none⟩=some (.slice bd ds.length cd)/\w1.cell? ⟨B,10,none⟩=some (.int .i64 x.xY)/\w1.cell? ⟨B,11,none⟩=some (.bool x.down)/\w1.cell? ⟨B,12,none⟩=some (.bool x.xX):=⟨(b1.cell (p:=⟨B,0,none⟩) hlB).trans k0,(b1.cell (p:=⟨B,1,none⟩) hlB).trans k1,(b1.cell (p:=⟨B,2,none⟩) hlB).trans k2,(b1.cell (p:=⟨B,3,none⟩) hlB).trans k3,(b1.cell (p:=⟨B,4,none⟩) hlB).trans k4,(b1.cell (p:=⟨B,5,none⟩) hlB).trans k5,(b1.cell (p:=⟨B,6,none⟩) hlB).trans k6,(b1.cell (p:=⟨B,7,none⟩) hlB).trans k7,(b1.cell (p:=⟨B,8,none⟩) hlB).trans k8,(b1.cell (p:=⟨B,9,none⟩) hlB).trans k9,(b1.cell (p:=⟨B,10,none⟩) hlB).trans k10,(b1.cell (p:=⟨B,11,none⟩) hlB).trans k11,(b1.cell (p:=⟨B,12,none⟩) hlB).trans k12⟩;have OW:=aa o1b;have B1:=aa b1;have z1:=b1.size;clear o1 o1b b1 b1' xV;go_wp2_with fail
 refine hK.out _ _ ?_ (fun xV=>?_)
 . exact hS1
 clear hK K;refine ae 8 xV ?_
 refine ae 9 xV ?_
 refine ae 10 xV ?_
 refine ae 11 xV ?_
 refine ae 12 xV ?_
 refine wpAnyH_done (by kernel_rfl) ?_ _
 clear xV hS hS1 k0 k1 k2 k3 k4 k5 k6 k7 k8 k9 k10 k11 k12 HM X;have HA1:=aa (HA.out.below B1.out);have MV1:=aa ((aT.refl B fm w).below B1.out);cases hwb:cV x ms x.xW
 . have HV:Hid (jo (x,ms)=(x,ms)/\mJ (x,ms)=5):=by unfold Hid;rw [HSA.out,HSC.out,hwb];exact ⟨rfl,rfl⟩
   clear hwb;go_wp2
   go_ret
   refine ⟨aF HV.out.2.symm,fm,?_,MV1.out⟩
   rw [HV.out.1];exact HA1.out
 have hwl:=jN hwb;have HV:Hid (jo (x,ms)=(if (dp (x,ms)).1.down=true then dp (x,ms) else ({(dp (x,ms)).1 with xW:=(dp (x,ms)).1.xW+1},(dp (x,ms)).2))/\mJ (x,ms)=sn (dp (x,ms)).1.down):=by unfold Hid;rw [HSA.out,HSC.out,hwb];exact ⟨rfl,rfl⟩
 clear hwb HSA HSC;obtain ⟨hln,_⟩:=ag OW.out.rd;subst hln;obtain ⟨fw,mw,rw1⟩:=OW.out.mine;generalize dc x ms x.xW=ps at mw OW hwl HSQ HSN ⊢;have hmp:m<ps.length:=by omega
 clear hwl;rcases (aR mw.rd).1.cases with h0|⟨gb,off,hgo,hgl,hcz⟩
 . omega
 subst hgo;have hcm:=hcz m hmp;generalize hy:ps.getD m 0=y at hcm HSQ HSN;have HY:=aa hy;clear hy;obtain ⟨bm,bd,cm,cd,X1,_⟩:=HA1.out;unfold bH at X1;obtain ⟨k0,k1,k2,k3,k4,k5,k6,k7,k8,k9,k10,k11,k12⟩:=X1.cells13;rw [HLO.out] at k4;have hT:w1.drew.cell? ⟨B,4,none⟩=some (.int .i64 (m:Int))/\w1.drew.cell? ⟨B,5,none⟩=some (.int .i64 x.xW)/\w1.drew.cell? ⟨gb,off+m,none⟩=some (.int .i64 y):=⟨k4,k5,hcm⟩;have i1:(0:Int)<=(m:Int):=by omega
 have i3:(m:Int)<(ps.length:Int):=by omega
 clear k0 k1 k2 k3 k6 k7 k8 k9 k10 k11 k12 hcz X1;go_wp2_with fail
 refine wp_region_held_drew (S:=fun w'=>w'.cell? ⟨B,4,none⟩=some (.int .i64 (m:Int))/\w'.cell? ⟨B,5,none⟩=some (.int .i64 x.xW)/\w'.cell? ⟨gb,off+m,none⟩=some (.int .i64 y)) (by kernel_rfl) ?_ (fun xV=>?_)
 . exact hT
 refine ae 0 xV ?_
 refine ae 1 xV ?_
 refine ae 2 xV ?_
 refine ae 3 xV ?_
 refine ae 4 xV ?_
 refine ae 5 xV ?_
 refine ae 6 xV ?_
 refine ae 7 xV ?_
 refine ae 8 xV ?_
 refine ae 10 xV ?_
 refine ae 11 xV ?_
 refine ae 12 xV ?_
 refine ae 13 xV ?_
 refine ae 14 xV ?_
 refine ae 15 xV ?_
 refine ae 16 xV ?_
 have bn:=af w1 (.cells #[.int .i64 y] 3);have zn:(w1.alloc (.cells #[.int .i64 y] 3)).heap.size=w1.heap.size+1:=by simp
 have hT2:(w1.alloc (.cells #[.int .i64 y] 3)).drew.cell? ⟨B,4,none⟩=some (.int .i64 (m:Int))/\(w1.alloc (.cells #[.int .i64 y] 3)).drew.cell? ⟨B,5,none⟩=some (.int .i64 x.xW)/\(w1.alloc (.cells #[.int .i64 y] 3)).drew.cell? ⟨gb,off+m,none⟩=some (.int .i64 y):=⟨(bn.cell (p:=⟨B,4,none⟩) (show B<w1.heap.size by omega)).trans k4,(bn.cell (p:=⟨B,5,none⟩) (show B<w1.heap.size by omega)).trans k5,(bn.cell (p:=⟨gb,off+m,none⟩) hgl).trans hcm⟩;have osec:=aS (bk.lit .i64 3 w1 [y] 1 #[.int .i64 y] rfl rfl (by unfold maxLen;omega));obtain ⟨fs,msec,rs⟩:=osec.mine;have HA2:=aa (HA1.out.below bn).drew;have MV2:=aa (MV1.out.below bn).drew;have MS:Hid (aD.Mine (w1.alloc (.cells #[.int .i64 y] 3)).drew [.slice (some ⟨w1.heap.size,0,none⟩) 1 1] [y] fs):=msec.below ((Below.refl _ _).drew);have hfl:=HA1.out.ltm.1;have hmw:=(mw.below bn);have MW:=aa (hmw.below ((Below.refl _ _).drew));have RW:=aa rw1;have zBs:B<(w1.alloc (.cells #[.int .i64 y] 3)).heap.size:=by omega
 have HPT:=aa (iF (w1.alloc (.cells #[.int .i64 y] 3)).drew B x ms ds fm fd HA2.out hf hM m hm (bE x.xW) (some ⟨w1.heap.size,0,none⟩) 1 1 [y] fs MS.out (fun hm'=>by have:=(rs _ hm').1;omega) (fun b hb hm'=>by have h1:=(rs b hb).1;have h2:=hfl b hm';omega) (by omega));clear osec msec rs bn hmw;refine wJ (i:=9) (i':=17) (by kernel_rfl) rfl rfl (by kernel_rfl) (by kernel_rfl) (fun K hK=>?_) (fun K hK=>?_)
 . go_simp
   refine (cF _ x.xW).mono ?_
   rintro e w1d ⟨rfl,hwd⟩;subst hwd;clear xV;go_wp2_with fail
   refine hK.out _ _ ?_ (fun xV=>?_)
   . exact hT
   clear hK K xV;refine aw (i:=17) (by kernel_rfl) rfl (by kernel_rfl) (fun K hK=>?_)
   go_simp
   refine hK.out _ _ ?_ (fun xV=>?_)
   . exact hT2
   clear hK K xV;refine aw (i:=18) (by kernel_rfl) rfl (by kernel_rfl) (fun K hK=>?_)
   go_simp
   refine HPT.out.mono ?_
   rintro e w4 ⟨rfl,fm4,hA4,hMv4⟩;have MV4:=aa (MV2.out.trans hMv4);rw [←HSQ.out] at hA4;have hsn:ef x (dp (x,ms)).1:=by rw [HSQ.out];exact HSN.out
   obtain ⟨d4,d5,_,d11,_,fz⟩:=iI hA4;have hT4:w4.cell? ⟨B,4,none⟩=some (.int .i64 (m:Int))/\w4.cell? ⟨B,5,none⟩=some (.int .i64 x.xW)/\w4.cell? ⟨gb,off+m,none⟩=some (.int .i64 y):=by
    refine ⟨?_,?_,?_⟩
    . rw [d4,hsn.2.2.2.1,HLO.out]
    . rw [d5,hsn.2.2.2.2.1]
    have hbw:=hMv4.mine MW.out (fun hm'=>by have:=(RW.out _ hm').1;omega) (fun b hb hm'=>by have h1:=(RW.out b hb).1;have h2:=hlm b hm';omega);rcases (aR hbw.rd).1.cases with h0|⟨gb2,off2,hgo2,_,hcz2⟩
    . omega
    simp at hgo2
    obtain ⟨rfl,rfl⟩:=hgo2;rw [hcz2 m hmp,HY.out]
   clear hMv4 HPT MV2 HA2;go_wp2_with fail
   refine hK.out _ _ ?_ (fun xV=>?_)
   . exact hT4
   clear hK K;refine wpAnyH_done (by kernel_rfl) ?_ _
   clear xV hT hT2 hT4 k4 k5 hcm;have hbq:(dp (x,ms)).1.xW=x.xW:=hsn.2.2.2.2.1;generalize dp (x,ms)=st at hA4 HV d4 d5 d11 hbq;obtain ⟨u,qs⟩:=st;dsimp only at hA4 HV d4 d5 d11 hbq
   have hwr:IntKind.i64.wrap (u.xW+1)=u.xW+1:=IntWalk.i64_in _ (by omega);clear hsn HSN HSQ hbq;cases hud:u.down
   . have HV2:Hid (jo (x,ms)=({u with xW:=u.xW+1},qs)/\mJ (x,ms)=0):=by unfold Hid;rw [HV.out.1,HV.out.2,hud];exact ⟨rfl,rfl⟩
     rw [hud] at d11;have HA5:=aa (jW hA4 (u.xW+1));have MV5:=aa (MV4.out.trans (aT.set (B:=B) (j:=5) (fm:=fm4) (w:=w4) (.int .i64 (u.xW+1))));clear hud hA4 HV;go_wp2
     go_ret
     refine ⟨aF HV2.out.2.symm,fm4,?_,MV5.out⟩
     rw [HV2.out.1];exact HA5.out
   have HV2:Hid (jo (x,ms)=(u,qs)/\mJ (x,ms)=6):=by unfold Hid;rw [HV.out.1,HV.out.2,hud];exact ⟨rfl,rfl⟩
   rw [hud] at d11;have HA5:=aa hA4;clear hud hA4 HV;go_wp2
   go_ret
   refine ⟨aF HV2.out.2.symm,fm4,?_,MV4.out⟩
   rw [HV2.out.1];exact HA5.out
 go_simp
 clear xV;refine hK.out _ _ ?_ (fun xV=>?_)
 . exact hT2
 clear hK K;refine aw (i:=9) (by kernel_rfl) rfl (by kernel_rfl) (fun K hK=>?_)
 go_simp
 refine (cF _ x.xW).mono ?_
 rintro e w1d ⟨rfl,hwd⟩;subst hwd;clear xV;go_wp2_with fail
 refine hK.out _ _ ?_ (fun xV=>?_)
 . exact hT2
 clear hK K xV;refine aw (i:=18) (by kernel_rfl) rfl (by kernel_rfl) (fun K hK=>?_)
 go_simp
 refine HPT.out.mono ?_
 rintro e w4 ⟨rfl,fm4,hA4,hMv4⟩;have MV4:=aa (MV2.out.trans hMv4);rw [←HSQ.out] at hA4;have hsn:ef x (dp (x,ms)).1:=by rw [HSQ.out];exact HSN.out
 obtain ⟨d4,d5,_,d11,_,fz⟩:=iI hA4;have hT4:w4.cell? ⟨B,4,none⟩=some (.int .i64 (m:Int))/\w4.cell? ⟨B,5,none⟩=some (.int .i64 x.xW)/\w4.cell? ⟨gb,off+m,none⟩=some (.int .i64 y):=by
  refine ⟨?_,?_,?_⟩
  . rw [d4,hsn.2.2.2.1,HLO.out]
  . rw [d5,hsn.2.2.2.2.1]
  have hbw:=hMv4.mine MW.out (fun hm'=>by have:=(RW.out _ hm').1;omega) (fun b hb hm'=>by have h1:=(RW.out b hb).1;have h2:=hlm b hm';omega);rcases (aR hbw.rd).1.cases with h0|⟨gb2,off2,hgo2,_,hcz2⟩
  . omega
  simp at hgo2
  obtain ⟨rfl,rfl⟩:=hgo2;rw [hcz2 m hmp,HY.out]
 clear hMv4 HPT MV2 HA2;go_wp2_with fail
 refine hK.out _ _ ?_ (fun xV=>?_)
 . exact hT4
 clear hK K;refine wpAnyH_done (by kernel_rfl) ?_ _
 clear xV hT hT2 hT4 k4 k5 hcm;have hbq:(dp (x,ms)).1.xW=x.xW:=hsn.2.2.2.2.1;generalize dp (x,ms)=st at hA4 HV d4 d5 d11 hbq;obtain ⟨u,qs⟩:=st;dsimp only at hA4 HV d4 d5 d11 hbq
 have hwr:IntKind.i64.wrap (u.xW+1)=u.xW+1:=IntWalk.i64_in _ (by omega);clear hsn HSN HSQ hbq;cases hud:u.down
 . have HV2:Hid (jo (x,ms)=({u with xW:=u.xW+1},qs)/\mJ (x,ms)=0):=by unfold Hid;rw [HV.out.1,HV.out.2,hud];exact ⟨rfl,rfl⟩
   rw [hud] at d11;have HA5:=aa (jW hA4 (u.xW+1));have MV5:=aa (MV4.out.trans (aT.set (B:=B) (j:=5) (fm:=fm4) (w:=w4) (.int .i64 (u.xW+1))));clear hud hA4 HV;go_wp2
   go_ret
   refine ⟨aF HV2.out.2.symm,fm4,?_,MV5.out⟩
   rw [HV2.out.1];exact HA5.out
 have HV2:Hid (jo (x,ms)=(u,qs)/\mJ (x,ms)=6):=by unfold Hid;rw [HV.out.1,HV.out.2,hud];exact ⟨rfl,rfl⟩
 rw [hud] at d11;have HA5:=aa hA4;clear hud hA4 HV;go_wp2
 go_ret
 refine ⟨aF HV2.out.2.symm,fm4,?_,MV4.out⟩
 rw [HV2.out.1];exact HA5.out
def AllSt (w:World) (B:Nat) (fm fd:List Nat) (q0:aq×List ai) (ds:List aH) (n:Nat) (wr:World):Prop:=
 ∃(q:aq×List ai) (es:List aH) (fm' fd':List Nat),es.length<=n/\aK wr B q.1 q.2 es fm' fd'/\xZ q es=xZ q0 ds/\aQ q.2<=max (aQ q0.2) 10005/\aX es<=aX ds/\aA (B :: (fm++fd)) w wr/\∀b,b∈fm'∨b∈fd'->b∈fm∨b∈fd∨w.heap.size<=b
theorem sA {w wr w':World} {B:Nat} {fm fd fm' fd':List Nat} {y:aq} {ns:List ai} {es:List aH} (hT:aA (B :: (fm++fd)) w wr) (hN:∀b,b∈fm'∨b∈fd'->b∈fm∨b∈fd∨w.heap.size<=b) (h:Fl8 wr B fm' fd' y ns es w'):Fl8 w B fm fd y ns es w':=by
 obtain ⟨fm2,fd2,hA,hT2,hN2⟩:=h;have hs:=hT.size;refine ⟨fm2,fd2,hA,⟨hT2.os.trans hT.os,hT2.tape.trans hT.tape,hT2.output.trans hT.output,Nat.le_trans hT.size hT2.size,fun k hk hf=>?_⟩,fun b hb=>?_⟩
 . rw [hT2.block k (by omega) (fun hm=>?_),hT.block k hk hf]
   simp only [List.mem_cons,List.mem_append] at hm hf
   rcases hm with h|h
   . exact hf (.inl h)
   rcases hN k h with h|h|h
   . exact hf (.inr (.inl h))
   . exact hf (.inr (.inr h))
   omega
 rcases hN2 b hb with h|h|h
 . exact hN b (.inl h)
 . exact hN b (.inr h)
 exact .inr (.inr (by omega))
theorem vf (w:World) (B:Nat) (x:aq) (ms:List ai) (ds:List aH) (fm fd:List Nat) (h:aK w B x ms ds fm fd) (hw:bh ms ds<=1900000):
 Calls Tryz.prog 112 #[.pointer (some ⟨B,0,none⟩)] w fun e w'=>e=.returned (.int .i64 (xZ (x,ms) ds).2.2)/\Fl8 w B fm fd (xZ (x,ms) ds).1.1 (xZ (x,ms) ds).1.2 (xZ (x,ms) ds).2.1 w':=by
 have HA:=aa h;have hlB:=h.lt;unfold bh at hw;clear h;go_enter Tryz.func112,Tryz.ntmps112
 go_wp2
 go_loopg [3] ds.length (fun kx _ wr=>AllSt w B fm fd (x,ms) ds kx wr)
 case atStart=>exact ⟨(x,ms),ds,fm,fd,Nat.le_refl _,HA.out,rfl,Nat.le_max_left _ _,Nat.le_refl _,aA.refl _ _,fun _ h=>h.elim .inl (fun h=>.inr (.inl h))⟩
 obtain ⟨q,es,fm1,fd1,hk,hA,hR,hw1,hw2,hT,hN⟩:=hrel;have hw3:bh q.2 es<=2097152:=by unfold bh;have h9:aQ q.2<=max (aQ ms) 10005:=hw1;omega
 have HAW:=aa hA;obtain ⟨bm,bd,cm,cd,X,hm,hd,hr,r1,r2⟩:=hA;have k9:wr.cell? ⟨B,9,none⟩=some (.slice bd es.length cd):=by unfold bH at X;exact X.cells13.2.2.2.2.2.2.2.2.2.1
 have hcd:=(ag hd.rd).2;have HT:=aa hT;have HN:=aa hN;have HR:=aa hR;have HW1:=aa hw1;have HW2:=aa hw2;cases es with
 | nil=>
  have HF:Hid (Fl8 w B fm fd (xZ (x,ms) ds).1.1 (xZ (x,ms) ds).1.2 (xZ (x,ms) ds).2.1 wr/\(xZ (x,ms) ds).2.2=0):=by
   unfold Hid;rw [←hR];exact ⟨⟨fm1,fd1,HAW.out,hT,hN⟩,rfl⟩
  clear X hm hd hr r1 r2 hT hN hR HAW;rw [List.length_nil] at k9 hcd;go_wp2
  go_ret
  exact ⟨aF HF.out.2.symm,HF.out.1⟩
 | cons e es=>
  obtain ⟨g,rfl⟩:=cY hd (by simp);obtain ⟨fps,e1,e2,e3,e4⟩:=lG hd;obtain ⟨f,g',av,cv,hf,hg',hgl,hgd,hgf,v0,v1,hmd⟩:=e4 0 e rfl;simp only [Option.some.injEq,Addr.mk.injEq,and_true] at hg'
  subst hg';have v0':wr.cell? ⟨g,0,none⟩=some (.int .i64 e.1):=by simpa using v0
  have HLF:=aa (mG wr B q.1 q.2 (e :: es) fm1 fd1 HAW.out hw3 e.1);have HST:=aa (fun h0=>(qf (q:=q) (e:=e) (es:=es) h0).symm.trans hR);have HSP:=aa (fun h0=>(qg (q:=q) (e:=e) (es:=es) h0).symm.trans hR);have HFD:=aa (ud (q:=q) (e:=e) (es:=es));have HWT:=aa (xR q (e :: es) e.1);have HDR:Hid (aX es<=aX (e :: es)):=rW (e :: es) 0;obtain ⟨y,ys⟩:=e;simp only at v0'
  generalize hEL:(((y,ys):aH) :: es).length=el at k9 hcd hk;have hel:0<el/\es.length<el/\es.length+1<=el:=by rw [←hEL];simp
  have k1:(0:Int)<(el:Int):=by omega
  have k2:(el:Int)>0:=by omega
  clear X hm hd hr r1 r2 hT hN hR HAW e1 e2 e3 e4 hf hmd v0 v1 hw1 hw2 hEL;go_wp2_with fail
  refine HLF.out.mono ?_
  rintro e w2 ⟨rfl,hF⟩;rw [HFD.out] at hF;generalize hfc:gX q.1 q.2 (((y,ys):aH) :: es) y=fc at HST HSP HFD hF ⊢;have HFC:Hid (gX q.1 q.2 (((y,ys):aH) :: es) ((y,ys):aH).1=fc):=hfc;clear hfc;by_cases h0:fc=0
  . subst h0
    rw [if_pos rfl] at hF;have HF:=aa (sA HT.out HN.out hF);have HR2:=aa (HST.out rfl);clear hF;go_wp2
    go_roundg es.length
    case measure=>omega
    obtain ⟨fm2,fd2,hA2,hT2,hN2⟩:=HF.out;refine ⟨fu q.1 q.2 (((y,ys):aH) :: es) y,es,fm2,fd2,Nat.le_refl _,hA2,HR2.out,?_,Nat.le_trans HDR.out HW2.out,hT2,hN2⟩
    have h1:=HWT.out;have h2:aQ q.2<=max (aQ ms) 10005:=HW1.out;have h3:aQ (fu q.1 q.2 (((y,ys):aH) :: es) y).2<=max (aQ q.2) 10005:=h1;show aQ (fu q.1 q.2 (((y,ys):aH) :: es) y).2<=max (aQ ms) 10005
    omega
  rw [if_neg h0] at hF;have HF:Hid (Fl8 w B fm fd (xZ (x,ms) ds).1.1 (xZ (x,ms) ds).1.2 (xZ (x,ms) ds).2.1 w2/\(xZ (x,ms) ds).2.2=fc):=by
   unfold Hid;rw [←HSP.out h0];exact ⟨sA HT.out HN.out hF,rfl⟩
  have e0:(fc !=0)=true:=by simpa using h0
  clear hF h0;go_wp2
  go_ret
  exact ⟨aF HF.out.2.symm,HF.out.1⟩
end Go.Proofs.YtgjomldcnjjpaaaGreat
