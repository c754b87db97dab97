/-
 Plain lemmas on one disk that is put in another's place. No condition; nothing of the program is named here.
-/
import Derived.Test.YtejokiafgbjdaaaGreatRowFailsBentSq13
import Derived.Test.YtejokiafgbjdaaaGreatRowFailsBentSq10
import Derived.Test.YtejokiafgbjdaaaGreatRowFailsBentSq2
import Derived.Test.YtejokiafgbjdaaaGreatRowFailsBentSq5
import Derived.Test.YtejokiafgbjdaaaGreatRowFailsBentSq3
import Derived.Test.YtejokiafgbjdaaaGreatRowFailsBentSq11

set_option maxRecDepth 100000
set_option maxHeartbeats 8000000
set_option linter.unusedSimpArgs false

namespace Go.Proofs.YtejokiafgbjdaaaGreat
open Go.RowKit

def ez (w:World) (g q:Nat) (v0 v1 v2 v3:Value):World:=(((w.setCell ⟨g,q,none⟩ v0).setCell ⟨g,q+1,none⟩ v1).setCell ⟨g,q+2,none⟩ v2).setCell ⟨g,q+3,none⟩ v3
theorem fF {w:World} {g q b:Nat} {v0 v1 v2 v3:Value} (hb:b≠g):(ez w g q v0 v1 v2 v3).heap[b]?=w.heap[b]?:=by
 unfold ez;rw [Below.heap_setCell _ _ _ _ hb,Below.heap_setCell _ _ _ _ hb,Below.heap_setCell _ _ _ _ hb,Below.heap_setCell _ _ _ _ hb]
theorem eH (w:World) (g q:Nat) (v0 v1 v2 v3:Value):(ez w g q v0 v1 v2 v3).heap.size=w.heap.size:=by unfold ez;simp
theorem kt (w:World) (g q:Nat) (v0 v1 v2 v3:Value):aq [g] w (ez w g q v0 v1 v2 v3):=
 ⟨rfl,rfl,rfl,by rw [eH];exact Nat.le_refl _,fun k _ hk=>fF (by simpa using hk)⟩
theorem sK {t:Ty} {E:TypeId} {w:World} {g n cap j:Nat} {d:List t.D} {v0 v1 v2 v3:Value} {x:t.D} {fp f:List Nat} (ht:t.n=4) (h:(bH t E).Mine w [.slice (some ⟨g,0,none⟩) n cap] d fp)
 (hj:j<n) (hx:t.Mine w [v0,v1,v2,v3] x f) (hdis:∀b∈f,b∉fp):
 (∀q,q<4->∃old,w.cell? ⟨g,j*4+q,none⟩=some old)/\(∀q,w.frozen? ⟨g,q,none⟩=false)/\g∈fp/\∃fp',(bH t E).Mine (ez w g (j*4) v0 v1 v2 v3) [.slice (some ⟨g,0,none⟩) n cap] (d.set j x) fp'/\∀b∈fp',b∈fp∨b∈f:=by
 obtain ⟨h,hn⟩:=h;obtain ⟨hx,hn'⟩:=hx;rcases h with ⟨h1,_⟩|⟨b,cap',cur,fps,h1,h2,h3,h4,h5,h6,h7,h8⟩
 . simp at h1
 simp only [List.cons.injEq,Value.slice.injEq,Option.some.injEq,Addr.mk.injEq,and_true] at h1
 obtain ⟨rfl,rfl,rfl⟩:=h1;have hgp:g∈fp:=by rw [h6];exact List.mem_cons_self
 rw [ht] at h5;have hjc:j*4+3<cur.size:=by rw [h5];omega
 have hgf':g∉f:=fun hm=>hdis g hm hgp;rw [h6,List.nodup_cons] at hn;obtain ⟨hgf,hnf⟩:=hn;have hd2:∀b∈f,b∉fps.flatten:=fun b hb hbl=>hdis b hb (by rw [h6];exact List.mem_cons_of_mem _ hbl);obtain ⟨hsn,hsm⟩:=gd fps j f hnf hn' hd2;have hoth:∀b,b≠g->(ez w g (j*4) v0 v1 v2 v3).heap[b]?=w.heap[b]?:=fun b hb=>fF hb;have hsz:w.heap.size<=(ez w g (j*4) v0 v1 v2 v3).heap.size:=by rw [eH];exact Nat.le_refl _
 have hcell:∀k,((((cur.setIfInBounds (j*4) v0).setIfInBounds (j*4+1) v1).setIfInBounds (j*4+2) v2).setIfInBounds (j*4+3) v3).toList[k]?=if j*4<=k/\k<j*4+4 then [v0,v1,v2,v3][k-j*4]? else cur.toList[k]?:=fun k=>by
  rw [Array.toList_setIfInBounds,Array.toList_setIfInBounds,Array.toList_setIfInBounds,Array.toList_setIfInBounds];by_cases h0:k=j*4
  . subst h0
    rw [if_pos (by omega),List.getElem?_set_ne (by omega),List.getElem?_set_ne (by omega),List.getElem?_set_ne (by omega),List.getElem?_set_self (by simp;omega),Nat.sub_self];rfl
  by_cases h1:k=j*4+1
  . subst h1
    rw [if_pos (by omega),List.getElem?_set_ne (by omega),List.getElem?_set_ne (by omega),List.getElem?_set_self (by simp;omega),Nat.add_sub_cancel_left];rfl
  by_cases h2:k=j*4+2
  . subst h2
    rw [if_pos (by omega),List.getElem?_set_ne (by omega),List.getElem?_set_self (by simp;omega),Nat.add_sub_cancel_left];rfl
  by_cases h3:k=j*4+3
  . subst h3
    rw [if_pos (by omega),List.getElem?_set_self (by simp;omega),Nat.add_sub_cancel_left];rfl
  rw [if_neg (by omega),List.getElem?_set_ne (by omega),List.getElem?_set_ne (by omega),List.getElem?_set_ne (by omega),List.getElem?_set_ne (by omega)]
 refine ⟨fun q hq=>⟨cur[j*4+q]'(by omega),?_⟩,fun q=>frozen_of_row w g q cur E h4,hgp,g :: (fps.set j f).flatten,⟨.inr ⟨g,cap,(((cur.setIfInBounds (j*4) v0).setIfInBounds (j*4+1) v1).setIfInBounds (j*4+2) v2).setIfInBounds (j*4+3) v3,fps.set j f,by rw [List.length_set],by rw [List.length_set];exact h2,h3,heap_setCell_same _ g _ _ E v3 (heap_setCell_same _ g _ _ E v2 (heap_setCell_same _ g _ _ E v1 (heap_setCell_same w g _ cur E v0 h4))),by rw [ht];simpa using h5,rfl,by rw [List.length_set,List.length_set];exact h7,fun i y hy=>?_⟩,?_⟩,?_⟩
 . rw [cell_of_row w g _ cur E (0,0) h4,Array.getElem?_eq_getElem]
 . by_cases hij:i=j
   . subst hij
     have hyx:y=x:=by
      rw [List.getElem?_set_self (by omega)] at hy;simpa using hy.symm
     subst hyx;refine ⟨f,List.getElem?_set_self (by rw [h7];omega),?_⟩
     have e:(((((cur.setIfInBounds (i*4) v0).setIfInBounds (i*4+1) v1).setIfInBounds (i*4+2) v2).setIfInBounds (i*4+3) v3).toList.drop (i*t.n)).take t.n=[v0,v1,v2,v3]:=by
      rw [ht];apply List.ext_getElem?
      intro k;rw [List.getElem?_take,List.getElem?_drop,hcell];by_cases hk:k<4
      . rw [if_pos hk,if_pos (by omega),Nat.add_sub_cancel_left]
      rw [if_neg hk,List.getElem?_eq_none (by simp;omega)]
     rw [e];exact t.owKept hx (fun b hb=>hoth b (fun e=>hgf' (e▸hb))) hsz
   rw [List.getElem?_set_ne (fun e=>hij e.symm)] at hy;obtain ⟨f2,hf,ho⟩:=h8 i y hy;refine ⟨f2,by rw [List.getElem?_set_ne (fun e=>hij e.symm)];exact hf,?_⟩
   have e:(((((cur.setIfInBounds (j*4) v0).setIfInBounds (j*4+1) v1).setIfInBounds (j*4+2) v2).setIfInBounds (j*4+3) v3).toList.drop (i*t.n)).take t.n=(cur.toList.drop (i*t.n)).take t.n:=by
    rw [ht];apply List.ext_getElem?
    intro k;rw [List.getElem?_take,List.getElem?_take,List.getElem?_drop,List.getElem?_drop];by_cases hk:k<4
    . rw [if_pos hk,if_pos hk,hcell,if_neg (by omega)]
    rw [if_neg hk,if_neg hk]
   rw [e];exact t.owKept ho (fun b hb=>hoth b (fun e'=>hgf (by rw [←e'];exact List.mem_flatten.2 ⟨f2,List.mem_of_getElem? hf,hb⟩))) hsz
 . rw [List.nodup_cons]
   refine ⟨fun hm=>?_,hsn⟩
   rcases hsm g hm with hm|hm
   . exact hgf' hm
   exact hgf hm
 intro b hb;rcases List.mem_cons.1 hb with rfl|hb
 . exact .inl hgp
 rcases hsm b hb with hb|hb
 . exact .inr hb
 exact .inl (by rw [h6];exact List.mem_cons_of_mem _ hb)
def aC (x:al) (vm vd:Value):Array Value:=#[.int .i64 x.id,.int .i64 x.n,.int .i64 x.s,vm,.int .i64 x.lost,.int .i64 x.uG,.int .i64 x.seq,.int .i64 x.tail,.int .i64 x.gen,vd,.int .i64 x.uI,.bool x.down,.bool x.uH]
def aD (w:World) (B:Nat) (x:al) (ms:List ai) (ds:List (Int×List Int)) (fm fd:List Nat):Prop:=
 ∃(bm bd:Option Addr) (cm cd:Nat),Box w B 29 (aC x (.slice bm ms.length cm) (.slice bd ds.length cd))/\(bk 142 78).Mine w [.slice bm ms.length cm] ms fm/\(aU 61).Mine w [.slice bd ds.length cd] ds fd/\(∀b∈fm,b∉fd)/\B∉fm/\B∉fd
def aI (B:Nat) (fm:List Nat) (w:World) (fm':List Nat) (w':World):Prop:=aq (B :: fm) w w'/\∀b∈fm',b∈fm∨w.heap.size<=b
theorem aI.refl (B:Nat) (fm:List Nat) (w:World):aI B fm w fm w:=⟨aq.refl _ _,fun _ h=>.inl h⟩
theorem aI.trans {B:Nat} {f1 f2 f3:List Nat} {w1 w2 w3:World} (h:aI B f1 w1 f2 w2) (k:aI B f2 w2 f3 w3):aI B f1 w1 f3 w3:=by
 have hs:=h.1.size;refine ⟨⟨k.1.os.trans h.1.os,k.1.tape.trans h.1.tape,k.1.output.trans h.1.output,Nat.le_trans h.1.size k.1.size,fun b hb hn=>?_⟩,fun b hb=>?_⟩
 . rw [k.1.block b (by omega) (fun hm=>?_),h.1.block b hb hn]
   rcases List.mem_cons.1 hm with e|hm
   . exact hn (by rw [e];exact List.mem_cons_self)
   rcases h.2 b hm with h1|h1
   . exact hn (List.mem_cons_of_mem _ h1)
   omega
 rcases k.2 b hb with h1|h1
 . exact h.2 b h1
 exact .inr (by omega)
theorem aI.below {B:Nat} {f1 f2:List Nat} {w1 w2 w3:World} (h:aI B f1 w1 f2 w2) (k:Below w2.heap.size w2 w3):aI B f1 w1 f2 w3:=
 h.trans ⟨⟨k.os,k.tape,k.output,k.size,fun b hb _=>k.block b hb⟩,fun _ hb=>.inl hb⟩
theorem aI.drew {B:Nat} {f1 f2:List Nat} {w1 w2:World} (h:aI B f1 w1 f2 w2):aI B f1 w1 f2 w2.drew:=h.below ((Below.refl _ _).drew)
theorem aI.size {B:Nat} {f1 f2:List Nat} {w1 w2:World} (h:aI B f1 w1 f2 w2):w1.heap.size<=w2.heap.size:=h.1.size
theorem aI.box {B C:Nat} {f1 f2:List Nat} {w1 w2:World} {T:TypeId} {cs:Array Value} (h:aI B f1 w1 f2 w2) (x:Box w1 C T cs) (hne:C≠B) (hf:C∉f1):Box w2 C T cs:=x.kept (h.1.block C x.lt (by simp [hne,hf]))
theorem aI.mine {t:Ty} {B:Nat} {f1 f2 fp:List Nat} {w1 w2:World} {vs:List Value} {d:t.D} (h:aI B f1 w1 f2 w2) (o:t.Mine w1 vs d fp) (hB:B∉fp) (hd:∀b∈fp,b∉f1):t.Mine w2 vs d fp:=
 o.kept h.1 (fun b hb hm=>by
  rcases List.mem_cons.1 hm with e|hm
  . exact hB (e▸hb)
  exact hd b hb hm)
theorem aI.set {B j:Nat} {fm:List Nat} {w:World} (v:Value):aI B fm w fm (w.setCell ⟨B,j,none⟩ v):=⟨aq.setCell v List.mem_cons_self,fun _ h=>.inl h⟩
theorem aD.lt {w:World} {B:Nat} {x:al} {ms:List ai} {ds:List (Int×List Int)} {fm fd:List Nat} (h:aD w B x ms ds fm fd):B<w.heap.size:=by
 obtain ⟨_,_,_,_,hx,_⟩:=h;exact hx.lt
theorem aD.ltm {w:World} {B:Nat} {x:al} {ms:List ai} {ds:List (Int×List Int)} {fm fd:List Nat} (h:aD w B x ms ds fm fd):(∀b∈fm,b<w.heap.size)/\∀b∈fd,b<w.heap.size:=by
 obtain ⟨_,_,_,_,_,hm,hd,_⟩:=h;exact ⟨hm.lt,hd.lt⟩
theorem aD.below {w w':World} {B:Nat} {x:al} {ms:List ai} {ds:List (Int×List Int)} {fm fd:List Nat} (h:aD w B x ms ds fm fd) (hb:Below w.heap.size w w'):aD w' B x ms ds fm fd:=by
 obtain ⟨bm,bd,cm,cd,hx,hm,hd,r⟩:=h;exact ⟨bm,bd,cm,cd,hx.below hb hx.lt,hm.below hb,hd.below hb,r⟩
theorem aD.drew {w:World} {B:Nat} {x:al} {ms:List ai} {ds:List (Int×List Int)} {fm fd:List Nat} (h:aD w B x ms ds fm fd):aD w.drew B x ms ds fm fd:=h.below ((Below.refl _ _).drew)
theorem aD.alloc {w:World} {B:Nat} {x:al} {ms:List ai} {ds:List (Int×List Int)} {fm fd:List Nat} (h:aD w B x ms ds fm fd) (o:Obj):aD (w.alloc o) B x ms ds fm fd:=h.below (ah w o)
theorem aD.kept {w w':World} {B:Nat} {fq:List Nat} {x:al} {ms:List ai} {ds:List (Int×List Int)} {fm fd:List Nat} (h:aD w B x ms ds fm fd) (ht:aq fq w w') (h0:B∉fq) (h1:∀b∈fm,b∉fq) (h2:∀b∈fd,b∉fq):aD w' B x ms ds fm fd:=by
 obtain ⟨bm,bd,cm,cd,hx,hm,hd,r⟩:=h;exact ⟨bm,bd,cm,cd,hx.kept (ht.block B hx.lt h0),hm.kept ht h1,hd.kept ht h2,r⟩
theorem bG {t:Ty} {E:TypeId} {w:World} {a:Option Addr} {n cap:Nat} {d:List t.D} {fp:List Nat} (h:(bH t E).Mine w [.slice a n cap] d fp) (hn:0<n):∃g,a=some ⟨g,0,none⟩:=by
 obtain ⟨h,_⟩:=h;rcases h with ⟨h1,_⟩|⟨b,cap',cur,fps,h1,_⟩
 . simp at h1
   omega
 simp at h1
 exact ⟨b,h1.1⟩
theorem dp {w:World} {E F:TypeId} {g n cap j:Nat} {ms:List ai} {d:ai} {fp:List Nat} (h:(bk E F).Mine w [.slice (some ⟨g,0,none⟩) n cap] ms fp) (hj:ms[j]?=some d):
 g<w.heap.size/\∃(a0 a1 a3:Option Addr) (c0 c1 c3:Nat) (ss:List (List Int)) (cs:List (Int×List Int)) (f:Bool) (bs:List Int),d=(ss,cs,f,bs)/\w.cell? ⟨g,j*4,none⟩=some (.slice a0 ss.length c0)/\w.cell? ⟨g,j*4+1,none⟩=some (.slice a1 cs.length c1)/\w.cell? ⟨g,j*4+2,none⟩=some (.bool f)/\w.cell? ⟨g,j*4+3,none⟩=some (.slice a3 bs.length c3) /\
  aR.Rd w [.slice a0 ss.length c0] ss/\(aU E).Rd w [.slice a1 cs.length c1] cs/\aA.Rd w [.slice a3 bs.length c3] bs:=by
 have hjl:=(List.getElem?_eq_some_iff.1 hj).1;have hl:=(ae h.rd).1;rcases cF rfl h.rd with h0|⟨b,off,hbo,hbl,hcs⟩
 . omega
 simp at hbo
 obtain ⟨rfl,rfl⟩:=hbo;obtain ⟨v0,v1,v2,v3,hv0,hv1,hv2,hv3,hrv⟩:=hcs j d hj;obtain ⟨a0,c0,a1,c1,a3,c3,ss,cs,f,bs,rfl,rfl,rfl,rfl,rfl,r0,r1,r3⟩:=dP hrv;rw [Nat.zero_add] at hv0 hv1 hv2 hv3;exact ⟨hbl,a0,a1,a3,c0,c1,c3,ss,cs,f,bs,rfl,hv0,hv1,hv2,hv3,r0,r1,r3⟩
theorem di {w1 w3:World} {B g cm cd m:Nat} {bd:Option Addr} {x:al} {ms:List ai} {ds:List (Int×List Int)} {fm fd fpx:List Nat} {d:ai} {u0 u1 u2 u3:Value} (X:Box w1 B 29 (aC x (.slice (some ⟨g,0,none⟩) ms.length cm) (.slice bd ds.length cd))) (hm:(bk 142 78).Mine w1 [.slice (some ⟨g,0,none⟩) ms.length cm] ms fm) (hd:(aU 61).Mine w1 [.slice bd ds.length cd] ds fd) (hr:∀b∈fm,b∉fd) (r1:B∉fm) (r2:B∉fd)
 (hb:Below w1.heap.size w1 w3) (hj:m<ms.length) (hx:(bC 142).Mine w3 [u0,u1,u2,u3] d fpx) (hx2:∀b∈fpx,w1.heap.size<=b):
 (∀q,q<4->∃old,w3.cell? ⟨g,m*4+q,none⟩=some old)/\(∀q,w3.frozen? ⟨g,q,none⟩=false)/\g∈fm/\∃fm',aD (ez w3 g (m*4) u0 u1 u2 u3) B x (ms.set m d) ds fm' fd/\aI B fm w1 fm' (ez w3 g (m*4) u0 u1 u2 u3):=by
 have hlm:=hm.lt;have hld:=hd.lt;have hlB:=X.lt;obtain ⟨c,z,hg,fm',mA,rA⟩:=sK (j:=m) rfl (hm.below hb) hj hx (fun b hb' hm'=>by have h1:=hx2 b hb';have h2:=hlm b hm';omega);have ht:=kt w3 g (m*4) u0 u1 u2 u3;have hgB:B≠g:=fun e=>r1 (e▸hg);have hgd:∀b∈fd,b∉[g]:=fun b hb' hm'=>by simp at hm';exact hr g hg (hm'▸hb')
 refine ⟨c,z,hg,fm',⟨some ⟨g,0,none⟩,bd,cm,cd,?_,?_,(hd.below hb).kept ht hgd,?_,?_,r2⟩,⟨⟨hb.os,hb.tape,hb.output,by rw [eH];exact hb.size,fun b hb' hn=>?_⟩,fun b hb'=>?_⟩⟩
 . rw [List.length_set]
   exact (X.below hb hlB).kept (ht.block B (Nat.lt_of_lt_of_le hlB hb.size) (by simpa using hgB))
 . rw [List.length_set]
   exact mA
 . intro b hb' hm'
   rcases rA b hb' with h|h
   . exact hr b h hm'
   have h1:=hx2 b h;have h2:=hld b hm';omega
 . intro hm'
   rcases rA B hm' with h|h
   . exact r1 h
   have:=hx2 B h;omega
 . rw [fF (fun e=>hn (by rw [e];exact List.mem_cons_of_mem _ hg)),hb.block b hb']
 rcases rA b hb' with h|h
 . exact .inl h
 exact .inr (hx2 b h)
def gJ (ss:List (List Int)) (cs:List (Int×List Int)) (f:Bool) (bs:List Int):List (List Int):=if (aW ss cs bs&&!f)=true then db ss cs else ss
def ir (ss:List (List Int)) (cs:List (Int×List Int)) (f:Bool) (bs:List Int):List (Int×List Int):=if (aW ss cs bs&&!f)=true then [] else cs
theorem bE {w:World} {E:TypeId} {lo hi:Nat} {v0 v1 v3:Value} {f:Bool} {d:(bC E).D} (h:(bC E).Own w lo hi [v0,v1,.bool f,v3] d):∃a0 l0 c0 a1 l1 c1 a3 l3 c3,v0=.slice a0 l0 c0/\v1=.slice a1 l1 c1/\v3=.slice a3 l3 c3:=by
 obtain ⟨a0,c0,a1,c1,a3,c3,h0,h1,_,h3,_⟩:=nS h.rd;exact ⟨a0,_,c0,a1,_,c1,a3,_,c3,h0,h1,h3⟩
theorem jK (w:World) (E:TypeId) (a0 a1 a3:Option Addr) (n0 c0 n1 c1 n3 c3:Nat) (ss:List (List Int)) (cs:List (Int×List Int)) (f:Bool) (bs:List Int) (h0:aR.Rd w [.slice a0 n0 c0] ss) (h1:(aU E).Rd w [.slice a1 n1 c1] cs) (h3:aA.Rd w [.slice a3 n3 c3] bs) (hw:aJ (ss,cs,f,bs)<=2097152):
 Calls Tryz.prog 261 #[.agg #[.slice a0 n0 c0,.slice a1 n1 c1,.bool f,.slice a3 n3 c3]] w fun e w'=>∃v0 v1 v3,e=.returned (.agg #[v0,v1,.bool f,v3])/\(bC 142).Own w' w.heap.size w'.heap.size [v0,v1,.bool f,v3] (gJ ss cs f bs,ir ss cs f bs,f,bs)/\Below w.heap.size w w':=by
 obtain ⟨hl0,_,hm0⟩:=ae h0;obtain ⟨hl1,_,hm1⟩:=ae h1;obtain ⟨hl3,_,hm3⟩:=ae h3;have hwc:aY cs<=2097152:=by unfold aJ at hw;simp only at hw;omega
 by_cases hM:aW ss cs bs=true
 . have hn20:n0<=20:=by have:=jn hM;omega
   have hks:=ly hM;by_cases hf:f=true
   . subst hf
     have e1:gJ ss cs true bs=ss:=by unfold gJ;simp
     have e2:ir ss cs true bs=cs:=by unfold ir;simp
     rw [e1,e2];clear e1 e2;have hA:Below w.heap.size w ((w.alloc (.cells #[.slice a0 n0 c0,.slice a1 n1 c1,.bool true,.slice a3 n3 c3] 78)).alloc (.cells #[.slice none 0 0,.slice none 0 0,.bool false,.slice none 0 0] 78)):=((Below.refl _ _).alloc (Nat.le_refl _) _).alloc (by simp) _;have xm:Box ((w.alloc (.cells #[.slice a0 n0 c0,.slice a1 n1 c1,.bool true,.slice a3 n3 c3] 78)).alloc (.cells #[.slice none 0 0,.slice none 0 0,.bool false,.slice none 0 0] 78)) w.heap.size 78 #[.slice a0 n0 c0,.slice a1 n1 c1,.bool true,.slice a3 n3 c3]:=(Box.new w _ _).alloc _;have xr:Box ((w.alloc (.cells #[.slice a0 n0 c0,.slice a1 n1 c1,.bool true,.slice a3 n3 c3] 78)).alloc (.cells #[.slice none 0 0,.slice none 0 0,.bool false,.slice none 0 0] 78)) (w.heap.size+1) 78 #[.slice none 0 0,.slice none 0 0,.bool false,.slice none 0 0]:=by
      have:=Box.new (w.alloc (.cells #[.slice a0 n0 c0,.slice a1 n1 c1,.bool true,.slice a3 n3 c3] 78)) 78 #[.slice none 0 0,.slice none 0 0,.bool false,.slice none 0 0];rw [show (w.alloc (.cells #[.slice a0 n0 c0,.slice a1 n1 c1,.bool true,.slice a3 n3 c3] 78)).heap.size=w.heap.size+1 by simp] at this;exact this
     go_enter Tryz.func261,Tryz.ntmps261
     go_wp2_with fail
     generalize hW:(w.alloc (.cells #[.slice a0 n0 c0,.slice a1 n1 c1,.bool true,.slice a3 n3 c3] 78)).alloc (.cells #[.slice none 0 0,.slice none 0 0,.bool false,.slice none 0 0] 78)=W at hA xm xr ⊢;clear hW;have zr:=xr.lt;obtain ⟨q0,q1,q2,q3⟩:=xm.cells4;have XM:=aa xm;have XR:=aa xr;clear xm xr;refine (bg _ E _ _ _ _ _ _ _ _ _ ss cs true bs (h0.below hA) (h1.below hA) (h3.below hA) hw).mono ?_
     rintro e w1 ⟨rfl,b1⟩;have z1:=b1.size;have XM1:=aa (XM.out.below b1 (by omega));have XR1:=aa (XR.out.below b1 (by omega));have B1:=aa (hA.trans (b1.mono (by omega)));clear q0 q1 q2 q3 XM XR b1 hA;obtain ⟨q0,q1,q2,q3⟩:=XM1.out.cells4;go_wp2_with fail
     refine (cu _ E _ _ _ _ _ _ _ _ _ ss cs true bs (h0.below B1.out) (h1.below B1.out) (h3.below B1.out) hw).mono ?_
     intro e w2 hc;obtain ⟨b0,b1,b3,e0,e1,e3,m1,m2,rfl,o3,o0,o1,r1,r2,r3,bb⟩:=bD hl0 hl1 hl3 hc;clear hc;have z2:=bb.size;clear q0 q1 q2 q3;obtain ⟨p0,p1,p2,p3⟩:=(XR1.out.below bb (by omega)).cells4;have fz:=(XR1.out.below bb (by omega)).frozen;have KB:=B1.out.trans (bb.mono (by omega));have hbt:But (w.heap.size+1) (w.heap.size+2) w2 ((((w2.setCell ⟨w.heap.size+1,0,none⟩ (.slice b0 n0 e0)).setCell ⟨w.heap.size+1,1,none⟩ (.slice b1 n1 e1)).setCell ⟨w.heap.size+1,2,none⟩ (.bool true)).setCell ⟨w.heap.size+1,3,none⟩ (.slice b3 n3 e3)):=
      (((But.setCell (by omega) (by omega) _).trans (But.setCell (by omega) (by omega) _)).trans (But.setCell (by omega) (by omega) _)).trans (But.setCell (by omega) (by omega) _)
     have z9:=hbt.size;have FIN:Hid ((bC 142).Own ((((w2.setCell ⟨w.heap.size+1,0,none⟩ (.slice b0 n0 e0)).setCell ⟨w.heap.size+1,1,none⟩ (.slice b1 n1 e1)).setCell ⟨w.heap.size+1,2,none⟩ (.bool true)).setCell ⟨w.heap.size+1,3,none⟩ (.slice b3 n3 e3)) w.heap.size ((((w2.setCell ⟨w.heap.size+1,0,none⟩ (.slice b0 n0 e0)).setCell ⟨w.heap.size+1,1,none⟩ (.slice b1 n1 e1)).setCell ⟨w.heap.size+1,2,none⟩ (.bool true)).setCell ⟨w.heap.size+1,3,none⟩ (.slice b3 n3 e3)).heap.size [.slice b0 n0 e0,.slice b1 n1 e1,.bool true,.slice b3 n3 e3] (ss,cs,true,bs)):=bt (o0.but hbt (by omega)) (o1.but hbt (by omega)) (o3.but hbt (by omega)) (by omega) (by omega) (by omega) (by omega) (by omega) (by omega);have FB:=aa (Below.andBut KB hbt (by omega));clear hbt KB bb o0 o1 o3;go_wp2
     refine bodyPost_ret (v:=.agg #[.slice b0 n0 e0,.slice b1 n1 e1,.bool true,.slice b3 n3 e3]) (by simp [results,Tryz.results261,go_sem,p0,p1,p2,p3]) rfl ?_
     exact ⟨_,_,_,rfl,FIN.out,FB.out⟩
   have hf:f=false:=by simpa using hf
   subst hf;have e1:gJ ss cs false bs=db ss cs:=by unfold gJ;simp [hM]
   have e2:ir ss cs false bs=[]:=by unfold ir;simp [hM]
   rw [e1,e2];clear e1 e2;have hA:Below w.heap.size w ((w.alloc (.cells #[.slice a0 n0 c0,.slice a1 n1 c1,.bool false,.slice a3 n3 c3] 78)).alloc (.cells #[.slice none 0 0,.slice none 0 0,.bool false,.slice none 0 0] 78)):=((Below.refl _ _).alloc (Nat.le_refl _) _).alloc (by simp) _;have xm:Box ((w.alloc (.cells #[.slice a0 n0 c0,.slice a1 n1 c1,.bool false,.slice a3 n3 c3] 78)).alloc (.cells #[.slice none 0 0,.slice none 0 0,.bool false,.slice none 0 0] 78)) w.heap.size 78 #[.slice a0 n0 c0,.slice a1 n1 c1,.bool false,.slice a3 n3 c3]:=(Box.new w _ _).alloc _;have xr:Box ((w.alloc (.cells #[.slice a0 n0 c0,.slice a1 n1 c1,.bool false,.slice a3 n3 c3] 78)).alloc (.cells #[.slice none 0 0,.slice none 0 0,.bool false,.slice none 0 0] 78)) (w.heap.size+1) 78 #[.slice none 0 0,.slice none 0 0,.bool false,.slice none 0 0]:=by
    have:=Box.new (w.alloc (.cells #[.slice a0 n0 c0,.slice a1 n1 c1,.bool false,.slice a3 n3 c3] 78)) 78 #[.slice none 0 0,.slice none 0 0,.bool false,.slice none 0 0];rw [show (w.alloc (.cells #[.slice a0 n0 c0,.slice a1 n1 c1,.bool false,.slice a3 n3 c3] 78)).heap.size=w.heap.size+1 by simp] at this;exact this
   go_enter Tryz.func261,Tryz.ntmps261
   go_wp2_with fail
   generalize hW:(w.alloc (.cells #[.slice a0 n0 c0,.slice a1 n1 c1,.bool false,.slice a3 n3 c3] 78)).alloc (.cells #[.slice none 0 0,.slice none 0 0,.bool false,.slice none 0 0] 78)=W at hA xm xr ⊢;clear hW;have zr:=xr.lt;obtain ⟨q0,q1,q2,q3⟩:=xm.cells4;have XM:=aa xm;have XR:=aa xr;clear xm xr;refine (bg _ E _ _ _ _ _ _ _ _ _ ss cs false bs (h0.below hA) (h1.below hA) (h3.below hA) hw).mono ?_
   rintro e w1 ⟨rfl,b1⟩;have z1:=b1.size;have XM1:=aa (XM.out.below b1 (by omega));have XR1:=aa (XR.out.below b1 (by omega));have B1:=aa (hA.trans (b1.mono (by omega)));clear q0 q1 q2 q3 XM XR b1 hA;obtain ⟨q0,q1,q2,q3⟩:=XM1.out.cells4;go_wp2_with fail
   refine (qi _ E E _ _ _ _ _ _ _ _ _ _ _ _ ss cs false bs (h0.below B1.out) (h1.below B1.out) (h3.below B1.out) hw cs (h1.below B1.out) hwc hks hn20).mono ?_
   rintro e w2 ⟨v0,v1,v3,rfl,o2,bb⟩;obtain ⟨d0,l0,e0,d1,l1,e1,d3,l3,e3,hv0,hv1,hv3⟩:=bE o2;subst hv0 hv1 hv3;have z2:=bb.size;clear q0 q1 q2 q3;obtain ⟨p0,p1,p2,p3⟩:=(XR1.out.below bb (by omega)).cells4;have fz:=(XR1.out.below bb (by omega)).frozen;have KB:=B1.out.trans (bb.mono (by omega));have hbt:But (w.heap.size+1) (w.heap.size+2) w2 ((((w2.setCell ⟨w.heap.size+1,0,none⟩ (.slice d0 l0 e0)).setCell ⟨w.heap.size+1,1,none⟩ (.slice d1 l1 e1)).setCell ⟨w.heap.size+1,2,none⟩ (.bool false)).setCell ⟨w.heap.size+1,3,none⟩ (.slice d3 l3 e3)):=
    (((But.setCell (by omega) (by omega) _).trans (But.setCell (by omega) (by omega) _)).trans (But.setCell (by omega) (by omega) _)).trans (But.setCell (by omega) (by omega) _)
   have z9:=hbt.size;have FIN:Hid ((bC 142).Own ((((w2.setCell ⟨w.heap.size+1,0,none⟩ (.slice d0 l0 e0)).setCell ⟨w.heap.size+1,1,none⟩ (.slice d1 l1 e1)).setCell ⟨w.heap.size+1,2,none⟩ (.bool false)).setCell ⟨w.heap.size+1,3,none⟩ (.slice d3 l3 e3)) w.heap.size ((((w2.setCell ⟨w.heap.size+1,0,none⟩ (.slice d0 l0 e0)).setCell ⟨w.heap.size+1,1,none⟩ (.slice d1 l1 e1)).setCell ⟨w.heap.size+1,2,none⟩ (.bool false)).setCell ⟨w.heap.size+1,3,none⟩ (.slice d3 l3 e3)).heap.size [.slice d0 l0 e0,.slice d1 l1 e1,.bool false,.slice d3 l3 e3] (db ss cs,[],false,bs)):=(o2.but hbt (.inr (by omega))).widen (by omega) z9;have FB:=aa (Below.andBut KB hbt (by omega));clear hbt KB bb o2;go_wp2
   refine bodyPost_ret (v:=.agg #[.slice d0 l0 e0,.slice d1 l1 e1,.bool false,.slice d3 l3 e3]) (by simp [results,Tryz.results261,go_sem,p0,p1,p2,p3]) rfl ?_
   exact ⟨_,_,_,rfl,FIN.out,FB.out⟩
 have hM:aW ss cs bs=false:=by simpa using hM
 have e1:gJ ss cs f bs=ss:=by unfold gJ;simp [hM]
 have e2:ir ss cs f bs=cs:=by unfold ir;simp [hM]
 rw [e1,e2];clear e1 e2;have hA:Below w.heap.size w ((w.alloc (.cells #[.slice a0 n0 c0,.slice a1 n1 c1,.bool f,.slice a3 n3 c3] 78)).alloc (.cells #[.slice none 0 0,.slice none 0 0,.bool false,.slice none 0 0] 78)):=((Below.refl _ _).alloc (Nat.le_refl _) _).alloc (by simp) _;have xm:Box ((w.alloc (.cells #[.slice a0 n0 c0,.slice a1 n1 c1,.bool f,.slice a3 n3 c3] 78)).alloc (.cells #[.slice none 0 0,.slice none 0 0,.bool false,.slice none 0 0] 78)) w.heap.size 78 #[.slice a0 n0 c0,.slice a1 n1 c1,.bool f,.slice a3 n3 c3]:=(Box.new w _ _).alloc _;have xr:Box ((w.alloc (.cells #[.slice a0 n0 c0,.slice a1 n1 c1,.bool f,.slice a3 n3 c3] 78)).alloc (.cells #[.slice none 0 0,.slice none 0 0,.bool false,.slice none 0 0] 78)) (w.heap.size+1) 78 #[.slice none 0 0,.slice none 0 0,.bool false,.slice none 0 0]:=by
  have:=Box.new (w.alloc (.cells #[.slice a0 n0 c0,.slice a1 n1 c1,.bool f,.slice a3 n3 c3] 78)) 78 #[.slice none 0 0,.slice none 0 0,.bool false,.slice none 0 0];rw [show (w.alloc (.cells #[.slice a0 n0 c0,.slice a1 n1 c1,.bool f,.slice a3 n3 c3] 78)).heap.size=w.heap.size+1 by simp] at this;exact this
 go_enter Tryz.func261,Tryz.ntmps261
 go_wp2_with fail
 generalize hW:(w.alloc (.cells #[.slice a0 n0 c0,.slice a1 n1 c1,.bool f,.slice a3 n3 c3] 78)).alloc (.cells #[.slice none 0 0,.slice none 0 0,.bool false,.slice none 0 0] 78)=W at hA xm xr ⊢;clear hW;have zr:=xr.lt;obtain ⟨q0,q1,q2,q3⟩:=xm.cells4;have XM:=aa xm;have XR:=aa xr;clear xm xr;refine (bg _ E _ _ _ _ _ _ _ _ _ ss cs f bs (h0.below hA) (h1.below hA) (h3.below hA) hw).mono ?_
 rintro e w1 ⟨rfl,b1⟩;have z1:=b1.size;have XM1:=aa (XM.out.below b1 (by omega));have XR1:=aa (XR.out.below b1 (by omega));have B1:=aa (hA.trans (b1.mono (by omega)));clear q0 q1 q2 q3 XM XR b1 hA;obtain ⟨q0,q1,q2,q3⟩:=XM1.out.cells4;go_wp2_with fail
 refine (cu _ E _ _ _ _ _ _ _ _ _ ss cs f bs (h0.below B1.out) (h1.below B1.out) (h3.below B1.out) hw).mono ?_
 intro e w2 hc;obtain ⟨b0,b1,b3,e0,e1,e3,m1,m2,rfl,o3,o0,o1,r1,r2,r3,bb⟩:=bD hl0 hl1 hl3 hc;clear hc;have z2:=bb.size;clear q0 q1 q2 q3;obtain ⟨p0,p1,p2,p3⟩:=(XR1.out.below bb (by omega)).cells4;have fz:=(XR1.out.below bb (by omega)).frozen;have KB:=B1.out.trans (bb.mono (by omega));have hbt:But (w.heap.size+1) (w.heap.size+2) w2 ((((w2.setCell ⟨w.heap.size+1,0,none⟩ (.slice b0 n0 e0)).setCell ⟨w.heap.size+1,1,none⟩ (.slice b1 n1 e1)).setCell ⟨w.heap.size+1,2,none⟩ (.bool f)).setCell ⟨w.heap.size+1,3,none⟩ (.slice b3 n3 e3)):=
  (((But.setCell (by omega) (by omega) _).trans (But.setCell (by omega) (by omega) _)).trans (But.setCell (by omega) (by omega) _)).trans (But.setCell (by omega) (by omega) _)
 have z9:=hbt.size;have FIN:Hid ((bC 142).Own ((((w2.setCell ⟨w.heap.size+1,0,none⟩ (.slice b0 n0 e0)).setCell ⟨w.heap.size+1,1,none⟩ (.slice b1 n1 e1)).setCell ⟨w.heap.size+1,2,none⟩ (.bool f)).setCell ⟨w.heap.size+1,3,none⟩ (.slice b3 n3 e3)) w.heap.size ((((w2.setCell ⟨w.heap.size+1,0,none⟩ (.slice b0 n0 e0)).setCell ⟨w.heap.size+1,1,none⟩ (.slice b1 n1 e1)).setCell ⟨w.heap.size+1,2,none⟩ (.bool f)).setCell ⟨w.heap.size+1,3,none⟩ (.slice b3 n3 e3)).heap.size [.slice b0 n0 e0,.slice b1 n1 e1,.bool f,.slice b3 n3 e3] (ss,cs,f,bs)):=bt (o0.but hbt (by omega)) (o1.but hbt (by omega)) (o3.but hbt (by omega)) (by omega) (by omega) (by omega) (by omega) (by omega) (by omega);have FB:=aa (Below.andBut KB hbt (by omega));clear hbt KB bb o0 o1 o3;go_wp2
 refine bodyPost_ret (v:=.agg #[.slice b0 n0 e0,.slice b1 n1 e1,.bool f,.slice b3 n3 e3]) (by simp [results,Tryz.results261,go_sem,p0,p1,p2,p3]) rfl ?_
 exact ⟨_,_,_,rfl,FIN.out,FB.out⟩
def eV (w:World) (lo hi:Nat) (bm bd:Option Addr) (nm cm nd cd:Nat) (ms:List ai) (ds:List (Int×List Int)):Prop:=
 ∃(fm fd:List Nat),(bk 142 78).Mine w [.slice bm nm cm] ms fm/\(aU 61).Mine w [.slice bd nd cd] ds fd/\(∀b∈fm,b∉fd)/\(∀b∈fm,lo<=b/\b<hi)/\∀b∈fd,lo<=b/\b<hi
theorem eV.below {w w':World} {lo hi:Nat} {bm bd:Option Addr} {nm cm nd cd:Nat} {ms:List ai} {ds:List (Int×List Int)} (h:eV w lo hi bm bd nm cm nd cd ms ds) (hb:Below w.heap.size w w'):eV w' lo hi bm bd nm cm nd cd ms ds:=by
 obtain ⟨fm,fd,h1,h2,h3⟩:=h;exact ⟨fm,fd,h1.below hb,h2.below hb,h3⟩
theorem eV.same {w w':World} {lo hi:Nat} {bm bd:Option Addr} {nm cm nd cd:Nat} {ms:List ai} {ds:List (Int×List Int)} (h:eV w lo hi bm bd nm cm nd cd ms ds) (hs:aH w w'):eV w' lo hi bm bd nm cm nd cd ms ds:=h.below (hs.below _)
theorem eV.but {w w':World} {lo hi l u:Nat} {bm bd:Option Addr} {nm cm nd cd:Nat} {ms:List ai} {ds:List (Int×List Int)} (h:eV w lo hi bm bd nm cm nd cd ms ds) (hb:But l u w w') (hd:hi<=l∨u<=lo):eV w' lo hi bm bd nm cm nd cd ms ds:=by
 obtain ⟨fm,fd,h1,h2,h3,h4,h5⟩:=h;exact ⟨fm,fd,h1.but hb (fun b hb'=>by have:=h4 b hb';omega),h2.but hb (fun b hb'=>by have:=h5 b hb';omega),h3,h4,h5⟩
theorem eV.rdm {w:World} {lo hi:Nat} {bm bd:Option Addr} {nm cm nd cd:Nat} {ms:List ai} {ds:List (Int×List Int)} (h:eV w lo hi bm bd nm cm nd cd ms ds):(bk 142 78).Rd w [.slice bm nm cm] ms:=by
 obtain ⟨fm,fd,h1,_⟩:=h;exact h1.rd
theorem eV.rdd {w:World} {lo hi:Nat} {bm bd:Option Addr} {nm cm nd cd:Nat} {ms:List ai} {ds:List (Int×List Int)} (h:eV w lo hi bm bd nm cm nd cd ms ds):(aU 61).Rd w [.slice bd nd cd] ds:=by
 obtain ⟨fm,fd,_,h2,_⟩:=h;exact h2.rd
theorem eV.widen {w:World} {lo hi lo' hi':Nat} {bm bd:Option Addr} {nm cm nd cd:Nat} {ms:List ai} {ds:List (Int×List Int)} (h:eV w lo hi bm bd nm cm nd cd ms ds) (h1:lo'<=lo) (h2:hi<=hi'):eV w lo' hi' bm bd nm cm nd cd ms ds:=by
 obtain ⟨fm,fd,a1,a2,a3,a4,a5⟩:=h;exact ⟨fm,fd,a1,a2,a3,fun b hb=>by have:=a4 b hb;omega,fun b hb=>by have:=a5 b hb;omega⟩
theorem pR (l:List Nat) (k y:Nat) (h:k<l.length):dw (l.set k y)+l[k]=dw l+y:=by
 induction l generalizing k with
 | nil=>simp at h
 | cons a t ih=>
  cases k with
  | zero=>simp only [List.set_cons_zero,dw,List.foldr_cons,List.getElem_cons_zero];omega
  | succ k=>have:=ih k (by simpa using h);simp only [List.set_cons_succ,dw,List.foldr_cons,List.getElem_cons_succ] at this ⊢;omega
theorem kd {t:Ty} {E:TypeId} {w:World} {g n cap:Nat} {d:List t.D} {fp:List Nat} (h:(bH t E).Mine w [.slice (some ⟨g,0,none⟩) n cap] d fp):g∈fp:=by
 obtain ⟨h,_⟩:=h;rcases h with ⟨h1,_⟩|⟨b,cap',cur,fps,h1,_,_,_,_,hf,_⟩
 . simp at h1
 simp at h1
 rw [hf,h1.1];simp
end Go.Proofs.YtejokiafgbjdaaaGreat
