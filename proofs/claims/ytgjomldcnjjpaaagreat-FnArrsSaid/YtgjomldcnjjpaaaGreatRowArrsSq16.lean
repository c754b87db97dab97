/-
 An array and a code that a function hands back: plain lemmas. No condition.
-/
import Derived.Test.YtgjomldcnjjpaaaGreatRowArrsSq10
import Derived.Test.YtgjomldcnjjpaaaGreatRowArrsSq5
import Derived.Test.YtgjomldcnjjpaaaGreatRowArrsSq11
import Derived.Test.YtgjomldcnjjpaaaGreatRowArrsSq3
import Derived.Test.YtgjomldcnjjpaaaGreatRowArrsSq13

set_option maxRecDepth 100000
set_option maxHeartbeats 8000000
set_option linter.unusedSimpArgs false

namespace Go.Proofs.YtgjomldcnjjpaaaGreat
open Go.RowKit

def gL (w:World) (g q:Nat) (v0 v1 v2 v3:Value):World:=(((w.setCell ⟨g,q,none⟩ v0).setCell ⟨g,q+1,none⟩ v1).setCell ⟨g,q+2,none⟩ v2).setCell ⟨g,q+3,none⟩ v3
theorem gN {w:World} {g q b:Nat} {v0 v1 v2 v3:Value} (hb:b≠g):(gL w g q v0 v1 v2 v3).heap[b]?=w.heap[b]?:=by
 unfold gL;rw [Below.heap_setCell _ _ _ _ hb,Below.heap_setCell _ _ _ _ hb,Below.heap_setCell _ _ _ _ hb,Below.heap_setCell _ _ _ _ hb]
theorem fI (w:World) (g q:Nat) (v0 v1 v2 v3:Value):(gL w g q v0 v1 v2 v3).heap.size=w.heap.size:=by unfold gL;simp
theorem mj (w:World) (g q:Nat) (v0 v1 v2 v3:Value):aA [g] w (gL w g q v0 v1 v2 v3):=
 ⟨rfl,rfl,rfl,by rw [fI];exact Nat.le_refl _,fun k _ hk=>gN (by simpa using hk)⟩
theorem vF {t:Ty} {E:TypeId} {w:World} {g n cap j:Nat} {d:List t.D} {v0 v1 v2 v3:Value} {x:t.D} {fp f:List Nat} (ht:t.n=4) (h:(ce t E).Mine w [.slice (some ⟨g,0,none⟩) n cap] d fp)
 (hj:j<n) (hx:t.Mine w [v0,v1,v2,v3] x f) (hdis:∀b∈f,b∉fp):
 (∀q,q<4->∃old,w.cell? ⟨g,j*4+q,none⟩=some old)/\(∀q,w.frozen? ⟨g,q,none⟩=false)/\g∈fp/\∃fp',(ce t E).Mine (gL w g (j*4) v0 v1 v2 v3) [.slice (some ⟨g,0,none⟩) n cap] (d.set j x) fp'/\∀b∈fp',b∈fp∨b∈f:=by
 obtain ⟨h,hn⟩:=h;obtain ⟨hx,hn'⟩:=hx;rcases h with ⟨h1,_⟩|⟨b,cap',cur,fps,h1,h2,h3,h4,h5,h6,h7,h8⟩
 . simp at h1
 simp only [List.cons.injEq,Value.slice.injEq,Option.some.injEq,Addr.mk.injEq,and_true] at h1
 obtain ⟨rfl,rfl,rfl⟩:=h1;have hgp:g∈fp:=by rw [h6];exact List.mem_cons_self
 rw [ht] at h5;have hjc:j*4+3<cur.size:=by rw [h5];omega
 have hgf':g∉f:=fun hm=>hdis g hm hgp;rw [h6,List.nodup_cons] at hn;obtain ⟨hgf,hnf⟩:=hn;have hd2:∀b∈f,b∉fps.flatten:=fun b hb hbl=>hdis b hb (by rw [h6];exact List.mem_cons_of_mem _ hbl);obtain ⟨hsn,hsm⟩:=hU fps j f hnf hn' hd2;have hoth:∀b,b≠g->(gL w g (j*4) v0 v1 v2 v3).heap[b]?=w.heap[b]?:=fun b hb=>gN hb;have hsz:w.heap.size<=(gL w g (j*4) v0 v1 v2 v3).heap.size:=by rw [fI];exact Nat.le_refl _
 have hcell:∀k,((((cur.setIfInBounds (j*4) v0).setIfInBounds (j*4+1) v1).setIfInBounds (j*4+2) v2).setIfInBounds (j*4+3) v3).toList[k]?=if j*4<=k/\k<j*4+4 then [v0,v1,v2,v3][k-j*4]? else cur.toList[k]?:=fun k=>by
  rw [Array.toList_setIfInBounds,Array.toList_setIfInBounds,Array.toList_setIfInBounds,Array.toList_setIfInBounds];by_cases h0:k=j*4
  . subst h0
    rw [if_pos (by omega),List.getElem?_set_ne (by omega),List.getElem?_set_ne (by omega),List.getElem?_set_ne (by omega),List.getElem?_set_self (by simp;omega),Nat.sub_self];rfl
  by_cases h1:k=j*4+1
  . subst h1
    rw [if_pos (by omega),List.getElem?_set_ne (by omega),List.getElem?_set_ne (by omega),List.getElem?_set_self (by simp;omega),Nat.add_sub_cancel_left];rfl
  by_cases h2:k=j*4+2
  . subst h2
    rw [if_pos (by omega),List.getElem?_set_ne (by omega),List.getElem?_set_self (by simp;omega),Nat.add_sub_cancel_left];rfl
  by_cases h3:k=j*4+3
  . subst h3
    rw [if_pos (by omega),List.getElem?_set_self (by simp;omega),Nat.add_sub_cancel_left];rfl
  rw [if_neg (by omega),List.getElem?_set_ne (by omega),List.getElem?_set_ne (by omega),List.getElem?_set_ne (by omega),List.getElem?_set_ne (by omega)]
 refine ⟨fun q hq=>⟨cur[j*4+q]'(by omega),?_⟩,fun q=>frozen_of_row w g q cur E h4,hgp,g :: (fps.set j f).flatten,⟨.inr ⟨g,cap,(((cur.setIfInBounds (j*4) v0).setIfInBounds (j*4+1) v1).setIfInBounds (j*4+2) v2).setIfInBounds (j*4+3) v3,fps.set j f,by rw [List.length_set],by rw [List.length_set];exact h2,h3,heap_setCell_same _ g _ _ E v3 (heap_setCell_same _ g _ _ E v2 (heap_setCell_same _ g _ _ E v1 (heap_setCell_same w g _ cur E v0 h4))),by rw [ht];simpa using h5,rfl,by rw [List.length_set,List.length_set];exact h7,fun i y hy=>?_⟩,?_⟩,?_⟩
 . rw [cell_of_row w g _ cur E (0,0) h4,Array.getElem?_eq_getElem]
 . by_cases hij:i=j
   . subst hij
     have hyx:y=x:=by
      rw [List.getElem?_set_self (by omega)] at hy;simpa using hy.symm
     subst hyx;refine ⟨f,List.getElem?_set_self (by rw [h7];omega),?_⟩
     have e:(((((cur.setIfInBounds (i*4) v0).setIfInBounds (i*4+1) v1).setIfInBounds (i*4+2) v2).setIfInBounds (i*4+3) v3).toList.drop (i*t.n)).take t.n=[v0,v1,v2,v3]:=by
      rw [ht];apply List.ext_getElem?
      intro k;rw [List.getElem?_take,List.getElem?_drop,hcell];by_cases hk:k<4
      . rw [if_pos hk,if_pos (by omega),Nat.add_sub_cancel_left]
      rw [if_neg hk,List.getElem?_eq_none (by simp;omega)]
     rw [e];exact t.owKept hx (fun b hb=>hoth b (fun e=>hgf' (e▸hb))) hsz
   rw [List.getElem?_set_ne (fun e=>hij e.symm)] at hy;obtain ⟨f2,hf,ho⟩:=h8 i y hy;refine ⟨f2,by rw [List.getElem?_set_ne (fun e=>hij e.symm)];exact hf,?_⟩
   have e:(((((cur.setIfInBounds (j*4) v0).setIfInBounds (j*4+1) v1).setIfInBounds (j*4+2) v2).setIfInBounds (j*4+3) v3).toList.drop (i*t.n)).take t.n=(cur.toList.drop (i*t.n)).take t.n:=by
    rw [ht];apply List.ext_getElem?
    intro k;rw [List.getElem?_take,List.getElem?_take,List.getElem?_drop,List.getElem?_drop];by_cases hk:k<4
    . rw [if_pos hk,if_pos hk,hcell,if_neg (by omega)]
    rw [if_neg hk,if_neg hk]
   rw [e];exact t.owKept ho (fun b hb=>hoth b (fun e'=>hgf (by rw [←e'];exact List.mem_flatten.2 ⟨f2,List.mem_of_getElem? hf,hb⟩))) hsz
 . rw [List.nodup_cons]
   refine ⟨fun hm=>?_,hsn⟩
   rcases hsm g hm with hm|hm
   . exact hgf' hm
   exact hgf hm
 intro b hb;rcases List.mem_cons.1 hb with rfl|hb
 . exact .inl hgp
 rcases hsm b hb with hb|hb
 . exact .inr hb
 exact .inl (by rw [h6];exact List.mem_cons_of_mem _ hb)
def bH (x:aq) (vm vd:Value):Array Value:=#[.int .i64 x.id,.int .i64 x.n,.int .i64 x.s,vm,.int .i64 x.lost,.int .i64 x.xW,.int .i64 x.seq,.int .i64 x.tail,.int .i64 x.gen,vd,.int .i64 x.xY,.bool x.down,.bool x.xX]
def aK (w:World) (B:Nat) (x:aq) (ms:List ai) (ds:List (Int×List Int)) (fm fd:List Nat):Prop:=
 ∃(bm bd:Option Addr) (cm cd:Nat),Box w B 31 (bH x (.slice bm ms.length cm) (.slice bd ds.length cd))/\(bI 119 55).Mine w [.slice bm ms.length cm] ms fm/\(aW 93).Mine w [.slice bd ds.length cd] ds fd/\(∀b∈fm,b∉fd)/\B∉fm/\B∉fd
def aT (B:Nat) (fm:List Nat) (w:World) (fm':List Nat) (w':World):Prop:=aA (B :: fm) w w'/\∀b∈fm',b∈fm∨w.heap.size<=b
theorem aT.refl (B:Nat) (fm:List Nat) (w:World):aT B fm w fm w:=⟨aA.refl _ _,fun _ h=>.inl h⟩
theorem aT.trans {B:Nat} {f1 f2 f3:List Nat} {w1 w2 w3:World} (h:aT B f1 w1 f2 w2) (k:aT B f2 w2 f3 w3):aT B f1 w1 f3 w3:=by
 have hs:=h.1.size;refine ⟨⟨k.1.os.trans h.1.os,k.1.tape.trans h.1.tape,k.1.output.trans h.1.output,Nat.le_trans h.1.size k.1.size,fun b hb hn=>?_⟩,fun b hb=>?_⟩
 . rw [k.1.block b (by omega) (fun hm=>?_),h.1.block b hb hn]
   rcases List.mem_cons.1 hm with e|hm
   . exact hn (by rw [e];exact List.mem_cons_self)
   rcases h.2 b hm with h1|h1
   . exact hn (List.mem_cons_of_mem _ h1)
   omega
 rcases k.2 b hb with h1|h1
 . exact h.2 b h1
 exact .inr (by omega)
theorem aT.below {B:Nat} {f1 f2:List Nat} {w1 w2 w3:World} (h:aT B f1 w1 f2 w2) (k:Below w2.heap.size w2 w3):aT B f1 w1 f2 w3:=
 h.trans ⟨⟨k.os,k.tape,k.output,k.size,fun b hb _=>k.block b hb⟩,fun _ hb=>.inl hb⟩
theorem aT.drew {B:Nat} {f1 f2:List Nat} {w1 w2:World} (h:aT B f1 w1 f2 w2):aT B f1 w1 f2 w2.drew:=h.below ((Below.refl _ _).drew)
theorem aT.size {B:Nat} {f1 f2:List Nat} {w1 w2:World} (h:aT B f1 w1 f2 w2):w1.heap.size<=w2.heap.size:=h.1.size
theorem aT.box {B C:Nat} {f1 f2:List Nat} {w1 w2:World} {T:TypeId} {cs:Array Value} (h:aT B f1 w1 f2 w2) (x:Box w1 C T cs) (hne:C≠B) (hf:C∉f1):Box w2 C T cs:=x.kept (h.1.block C x.lt (by simp [hne,hf]))
theorem aT.mine {t:Ty} {B:Nat} {f1 f2 fp:List Nat} {w1 w2:World} {vs:List Value} {d:t.D} (h:aT B f1 w1 f2 w2) (o:t.Mine w1 vs d fp) (hB:B∉fp) (hd:∀b∈fp,b∉f1):t.Mine w2 vs d fp:=
 o.kept h.1 (fun b hb hm=>by
  rcases List.mem_cons.1 hm with e|hm
  . exact hB (e▸hb)
  exact hd b hb hm)
theorem aT.set {B j:Nat} {fm:List Nat} {w:World} (v:Value):aT B fm w fm (w.setCell ⟨B,j,none⟩ v):=⟨aA.setCell v List.mem_cons_self,fun _ h=>.inl h⟩
theorem aK.lt {w:World} {B:Nat} {x:aq} {ms:List ai} {ds:List (Int×List Int)} {fm fd:List Nat} (h:aK w B x ms ds fm fd):B<w.heap.size:=by
 obtain ⟨_,_,_,_,hx,_⟩:=h;exact hx.lt
theorem aK.ltm {w:World} {B:Nat} {x:aq} {ms:List ai} {ds:List (Int×List Int)} {fm fd:List Nat} (h:aK w B x ms ds fm fd):(∀b∈fm,b<w.heap.size)/\∀b∈fd,b<w.heap.size:=by
 obtain ⟨_,_,_,_,_,hm,hd,_⟩:=h;exact ⟨hm.lt,hd.lt⟩
theorem aK.below {w w':World} {B:Nat} {x:aq} {ms:List ai} {ds:List (Int×List Int)} {fm fd:List Nat} (h:aK w B x ms ds fm fd) (hb:Below w.heap.size w w'):aK w' B x ms ds fm fd:=by
 obtain ⟨bm,bd,cm,cd,hx,hm,hd,r⟩:=h;exact ⟨bm,bd,cm,cd,hx.below hb hx.lt,hm.below hb,hd.below hb,r⟩
theorem aK.drew {w:World} {B:Nat} {x:aq} {ms:List ai} {ds:List (Int×List Int)} {fm fd:List Nat} (h:aK w B x ms ds fm fd):aK w.drew B x ms ds fm fd:=h.below ((Below.refl _ _).drew)
theorem aK.alloc {w:World} {B:Nat} {x:aq} {ms:List ai} {ds:List (Int×List Int)} {fm fd:List Nat} (h:aK w B x ms ds fm fd) (o:Obj):aK (w.alloc o) B x ms ds fm fd:=h.below (af w o)
theorem aK.kept {w w':World} {B:Nat} {fq:List Nat} {x:aq} {ms:List ai} {ds:List (Int×List Int)} {fm fd:List Nat} (h:aK w B x ms ds fm fd) (ht:aA fq w w') (h0:B∉fq) (h1:∀b∈fm,b∉fq) (h2:∀b∈fd,b∉fq):aK w' B x ms ds fm fd:=by
 obtain ⟨bm,bd,cm,cd,hx,hm,hd,r⟩:=h;exact ⟨bm,bd,cm,cd,hx.kept (ht.block B hx.lt h0),hm.kept ht h1,hd.kept ht h2,r⟩
theorem cY {t:Ty} {E:TypeId} {w:World} {a:Option Addr} {n cap:Nat} {d:List t.D} {fp:List Nat} (h:(ce t E).Mine w [.slice a n cap] d fp) (hn:0<n):∃g,a=some ⟨g,0,none⟩:=by
 obtain ⟨h,_⟩:=h;rcases h with ⟨h1,_⟩|⟨b,cap',cur,fps,h1,_⟩
 . simp at h1
   omega
 simp at h1
 exact ⟨b,h1.1⟩
theorem gh {w:World} {E F:TypeId} {g n cap j:Nat} {ms:List ai} {d:ai} {fp:List Nat} (h:(bI E F).Mine w [.slice (some ⟨g,0,none⟩) n cap] ms fp) (hj:ms[j]?=some d):
 g<w.heap.size/\∃(a0 a1 a3:Option Addr) (c0 c1 c3:Nat) (ss:List (List Int)) (cs:List (Int×List Int)) (f:Bool) (bs:List Int),d=(ss,cs,f,bs)/\w.cell? ⟨g,j*4,none⟩=some (.slice a0 ss.length c0)/\w.cell? ⟨g,j*4+1,none⟩=some (.slice a1 cs.length c1)/\w.cell? ⟨g,j*4+2,none⟩=some (.bool f)/\w.cell? ⟨g,j*4+3,none⟩=some (.slice a3 bs.length c3) /\
  aU.Rd w [.slice a0 ss.length c0] ss/\(aW E).Rd w [.slice a1 cs.length c1] cs/\aD.Rd w [.slice a3 bs.length c3] bs:=by
 have hjl:=(List.getElem?_eq_some_iff.1 hj).1;have hl:=(ag h.rd).1;rcases eb rfl h.rd with h0|⟨b,off,hbo,hbl,hcs⟩
 . omega
 simp at hbo
 obtain ⟨rfl,rfl⟩:=hbo;obtain ⟨v0,v1,v2,v3,hv0,hv1,hv2,hv3,hrv⟩:=hcs j d hj;obtain ⟨a0,c0,a1,c1,a3,c3,ss,cs,f,bs,rfl,rfl,rfl,rfl,rfl,r0,r1,r3⟩:=fV hrv;rw [Nat.zero_add] at hv0 hv1 hv2 hv3;exact ⟨hbl,a0,a1,a3,c0,c1,c3,ss,cs,f,bs,rfl,hv0,hv1,hv2,hv3,r0,r1,r3⟩
theorem iz {w1 w3:World} {B g cm cd m:Nat} {bd:Option Addr} {x:aq} {ms:List ai} {ds:List (Int×List Int)} {fm fd fpx:List Nat} {d:ai} {u0 u1 u2 u3:Value} (X:Box w1 B 31 (bH x (.slice (some ⟨g,0,none⟩) ms.length cm) (.slice bd ds.length cd))) (hm:(bI 119 55).Mine w1 [.slice (some ⟨g,0,none⟩) ms.length cm] ms fm) (hd:(aW 93).Mine w1 [.slice bd ds.length cd] ds fd) (hr:∀b∈fm,b∉fd) (r1:B∉fm) (r2:B∉fd)
 (hb:Below w1.heap.size w1 w3) (hj:m<ms.length) (hx:(cu 119).Mine w3 [u0,u1,u2,u3] d fpx) (hx2:∀b∈fpx,w1.heap.size<=b):
 (∀q,q<4->∃old,w3.cell? ⟨g,m*4+q,none⟩=some old)/\(∀q,w3.frozen? ⟨g,q,none⟩=false)/\g∈fm/\∃fm',aK (gL w3 g (m*4) u0 u1 u2 u3) B x (ms.set m d) ds fm' fd/\aT B fm w1 fm' (gL w3 g (m*4) u0 u1 u2 u3):=by
 have hlm:=hm.lt;have hld:=hd.lt;have hlB:=X.lt;obtain ⟨c,z,hg,fm',mA,rA⟩:=vF (j:=m) rfl (hm.below hb) hj hx (fun b hb' hm'=>by have h1:=hx2 b hb';have h2:=hlm b hm';omega);have ht:=mj w3 g (m*4) u0 u1 u2 u3;have hgB:B≠g:=fun e=>r1 (e▸hg);have hgd:∀b∈fd,b∉[g]:=fun b hb' hm'=>by simp at hm';exact hr g hg (hm'▸hb')
 refine ⟨c,z,hg,fm',⟨some ⟨g,0,none⟩,bd,cm,cd,?_,?_,(hd.below hb).kept ht hgd,?_,?_,r2⟩,⟨⟨hb.os,hb.tape,hb.output,by rw [fI];exact hb.size,fun b hb' hn=>?_⟩,fun b hb'=>?_⟩⟩
 . rw [List.length_set]
   exact (X.below hb hlB).kept (ht.block B (Nat.lt_of_lt_of_le hlB hb.size) (by simpa using hgB))
 . rw [List.length_set]
   exact mA
 . intro b hb' hm'
   rcases rA b hb' with h|h
   . exact hr b h hm'
   have h1:=hx2 b h;have h2:=hld b hm';omega
 . intro hm'
   rcases rA B hm' with h|h
   . exact r1 h
   have:=hx2 B h;omega
 . rw [gN (fun e=>hn (by rw [e];exact List.mem_cons_of_mem _ hg)),hb.block b hb']
 rcases rA b hb' with h|h
 . exact .inl h
 exact .inr (hx2 b h)
def fA (w:World) (lo hi:Nat) (bm bd:Option Addr) (nm cm nd cd:Nat) (ms:List ai) (ds:List (Int×List Int)):Prop:=
 ∃(fm fd:List Nat),(bI 119 55).Mine w [.slice bm nm cm] ms fm/\(aW 93).Mine w [.slice bd nd cd] ds fd/\(∀b∈fm,b∉fd)/\(∀b∈fm,lo<=b/\b<hi)/\∀b∈fd,lo<=b/\b<hi
theorem fA.below {w w':World} {lo hi:Nat} {bm bd:Option Addr} {nm cm nd cd:Nat} {ms:List ai} {ds:List (Int×List Int)} (h:fA w lo hi bm bd nm cm nd cd ms ds) (hb:Below w.heap.size w w'):fA w' lo hi bm bd nm cm nd cd ms ds:=by
 obtain ⟨fm,fd,h1,h2,h3⟩:=h;exact ⟨fm,fd,h1.below hb,h2.below hb,h3⟩
theorem fA.same {w w':World} {lo hi:Nat} {bm bd:Option Addr} {nm cm nd cd:Nat} {ms:List ai} {ds:List (Int×List Int)} (h:fA w lo hi bm bd nm cm nd cd ms ds) (hs:aP w w'):fA w' lo hi bm bd nm cm nd cd ms ds:=h.below (hs.below _)
theorem fA.but {w w':World} {lo hi l u:Nat} {bm bd:Option Addr} {nm cm nd cd:Nat} {ms:List ai} {ds:List (Int×List Int)} (h:fA w lo hi bm bd nm cm nd cd ms ds) (hb:But l u w w') (hd:hi<=l∨u<=lo):fA w' lo hi bm bd nm cm nd cd ms ds:=by
 obtain ⟨fm,fd,h1,h2,h3,h4,h5⟩:=h;exact ⟨fm,fd,h1.but hb (fun b hb'=>by have:=h4 b hb';omega),h2.but hb (fun b hb'=>by have:=h5 b hb';omega),h3,h4,h5⟩
theorem fA.rdm {w:World} {lo hi:Nat} {bm bd:Option Addr} {nm cm nd cd:Nat} {ms:List ai} {ds:List (Int×List Int)} (h:fA w lo hi bm bd nm cm nd cd ms ds):(bI 119 55).Rd w [.slice bm nm cm] ms:=by
 obtain ⟨fm,fd,h1,_⟩:=h;exact h1.rd
theorem fA.rdd {w:World} {lo hi:Nat} {bm bd:Option Addr} {nm cm nd cd:Nat} {ms:List ai} {ds:List (Int×List Int)} (h:fA w lo hi bm bd nm cm nd cd ms ds):(aW 93).Rd w [.slice bd nd cd] ds:=by
 obtain ⟨fm,fd,_,h2,_⟩:=h;exact h2.rd
theorem fA.widen {w:World} {lo hi lo' hi':Nat} {bm bd:Option Addr} {nm cm nd cd:Nat} {ms:List ai} {ds:List (Int×List Int)} (h:fA w lo hi bm bd nm cm nd cd ms ds) (h1:lo'<=lo) (h2:hi<=hi'):fA w lo' hi' bm bd nm cm nd cd ms ds:=by
 obtain ⟨fm,fd,a1,a2,a3,a4,a5⟩:=h;exact ⟨fm,fd,a1,a2,a3,fun b hb=>by have:=a4 b hb;omega,fun b hb=>by have:=a5 b hb;omega⟩
def jQ (gn gs:Int):List Int:=List.replicate (aN gn gs).toNat 0
theorem uP (gn gs:Int):(jQ gn gs).length<=32:=by
 have:=dP gn gs;unfold jQ;rw [List.length_replicate];omega
theorem pf (w:World) (gn gs:Int):
 Calls Tryz.prog 18 #[.agg #[.int .i64 gn,.int .i64 gs]] w fun e w'=>∃a l c,e=.returned (.slice a l c)/\aD.Own w' w.heap.size w'.heap.size [.slice a l c] (jQ gn gs)/\Below w.heap.size w w':=by
 obtain ⟨i0,hi,hz0,hz1,hz2⟩:=info_parts Tryz.info3;have hA:=af w (.cells #[.int .i64 gn,.int .i64 gs] 25);have hbr:=dP gn gs;go_enter Tryz.func18,Tryz.ntmps18
 go_wp2_with fail
 refine (fk _ gn gs).mono ?_
 rintro e w1 ⟨rfl,b1⟩;have B1:=Below.andThen hA b1;have hZ:jQ gn gs=List.replicate (aN gn gs).toNat 0:=rfl;obtain ⟨N,hN⟩:∃N:Nat,aN gn gs=N:=⟨(aN gn gs).toNat,by omega⟩;rw [hN] at hZ hbr ⊢;have e1:((N:Int)).toNat=N:=by omega
 rw [e1] at hZ;have hb3:i0.bytes*N<=281474976710656:=by rw [hz2];omega
 have hm3:N<=maxLen:=by unfold maxLen;omega
 have s1:=B1.size;go_wp2_with (at_make;refine wpList_make_full _ rfl _ _ 42 rfl w1.heap.size 3 i0 (.int .i64 0) 1 Tryz.underlying42 hi hz0 hz1 _ _ _ _ N rfl rfl rfl rfl hb3 hm3 (Nat.le_refl _) ?_;intro w2 hown hgrow)
 go_ret
 rw [ie] at hown;have ho:bk .i64 3 w2 w1.heap.size (.slice (some ⟨w1.heap.size,0,none⟩) N N) (List.replicate N 0):=by
  unfold bk;rw [List.length_replicate];exact hown
 have b2:Below w1.heap.size w1 w2:=(Below.refl _ _).grown hgrow (Nat.le_refl _) (by simp);refine ⟨_,_,_,rfl,?_,Below.andThen B1 b2⟩
 rw [hZ];exact (aS ho).widen s1 (Nat.le_refl _)
theorem xI {α:Type} [Inhabited α] {P:Nat->α->Prop} {n:Nat} (h:∀i,i<n->∃x,P i x):∃f:Nat->α,∀i,i<n->P i (f i):=by
 refine ⟨fun i=>if hi:i<n then Classical.choose (h i hi) else default,fun i hi=>?_⟩
 dsimp only
 rw [dif_pos hi];exact Classical.choose_spec (h i hi)
theorem tj {t:Ty} {E:TypeId} {w:World} {g n cap lo hi:Nat} {d:List t.D} (hl:d.length=n) (hc:n<=cap) (hm:cap<=9223372036854775807) (hg:lo<=g/\g<hi) (hz:g<w.heap.size)
 (each:∀i x,d[i]?=some x->∃cs f,t.rd w cs x f/\(∀b∈f,lo<=b/\b<hi)/\∀k,k<t.n->w.cell? ⟨g,i*t.n+k,none⟩=cs[k]?):(ce t E).In w lo hi [.slice (some ⟨g,0,none⟩) n cap] d:=by
 subst hl;obtain ⟨F,hF⟩:=xI (n:=d.length) (P:=fun i f=>∀x,d[i]?=some x->∃cs,t.rd w cs x f/\(∀b∈f,lo<=b/\b<hi)/\∀k,k<t.n->w.cell? ⟨g,i*t.n+k,none⟩=cs[k]?) (fun i hi'=>by
  obtain ⟨cs,f,h1,h2,h3⟩:=each i _ (List.getElem?_eq_getElem hi');exact ⟨f,fun x hx=>by
   rw [List.getElem?_eq_getElem hi'] at hx;cases hx;exact ⟨cs,h1,h2,h3⟩⟩)
 refine ⟨g :: ((List.range d.length).map F).flatten,⟨_,cap,rfl,hc,hm,.inr ⟨g,0,(List.range d.length).map F,rfl,hz,rfl,by simp,fun i x hx=>?_⟩⟩,fun b hb=>?_⟩
 . have hil:=(List.getElem?_eq_some_iff.1 hx).1
   obtain ⟨cs,h1,_,h3⟩:=hF i hil x hx;refine ⟨F i,cs,by simp [hil],h1,fun j hj=>?_⟩
   rw [Nat.zero_add];exact h3 j hj
 rcases List.mem_cons.1 hb with rfl|hb
 . exact hg
 obtain ⟨f,hf,hbf⟩:=List.mem_flatten.1 hb;obtain ⟨i,hi',rfl⟩:=List.mem_map.1 hf;have hil:i<d.length:=by simpa using hi'
 obtain ⟨_,_,h2,_⟩:=hF i hil _ (List.getElem?_eq_getElem hil);exact h2 b hbf
theorem vV {E:TypeId} {w:World} {lo hi:Nat} {v0 v1 v3:Value} {f:Bool} {ss:List (List Int)} {cs:List (Int×List Int)} {bs:List Int} (h0:aU.In w lo hi [v0] ss) (h1:(aW E).In w lo hi [v1] cs) (h3:aD.In w lo hi [v3] bs):(cu E).In w lo hi [v0,v1,.bool f,v3] (ss,cs,f,bs):=by
 obtain ⟨f0,r0,k0⟩:=h0;obtain ⟨f1,r1,k1⟩:=h1;obtain ⟨f3,r3,k3⟩:=h3;refine ⟨f0++(f1++([]++f3)),⟨f0,f1++([]++f3),rfl,r0,⟨f1,[]++f3,rfl,r1,⟨[],f3,rfl,⟨rfl,rfl⟩,r3,rfl⟩,rfl⟩,rfl⟩,fun b hb=>?_⟩
 rcases List.mem_append.1 hb with hb|hb
 . exact k0 b hb
 rcases List.mem_append.1 hb with hb|hb
 . exact k1 b hb
 exact k3 b (by simpa using hb)
theorem vW {E F:TypeId} {w:World} {g n cap j lo hi l h':Nat} {ms:List ai} {fm:List Nat} {v0 v1 v2 v3:Value} {x:ai} (hM:(bI E F).Mine w [.slice (some ⟨g,0,none⟩) n cap] ms fm) (hj:j<n) (hx:(cu E).In w l h' [v0,v1,v2,v3] x) (hg:g<l∨h'<=g) (hr:∀b∈fm,lo<=b/\b<hi) (h1:lo<=l) (h2:h'<=hi):
 (∀q,q<4->∃old,w.cell? ⟨g,j*4+q,none⟩=some old)/\(∀q,w.frozen? ⟨g,q,none⟩=false)/\(bI E F).In (gL w g (j*4) v0 v1 v2 v3) lo hi [.slice (some ⟨g,0,none⟩) n cap] (ms.set j x):=by
 obtain ⟨hl,hc,hm⟩:=ag hM.rd;have hjl:ms[j]?=some (ms[j]'(by omega)):=List.getElem?_eq_getElem (by omega);obtain ⟨hgf,PF,hP,_⟩:=fF hM;obtain ⟨cs0,f0,m0,n0,_,s0,c0,fz0,_⟩:=rj hM hjl;have hgz:=hM.lt g hgf;have l0:=(cu E).rdLen ((cu E).owRd m0.1);have hcell:∀q,q<4->∃old,w.cell? ⟨g,j*4+q,none⟩=some old:=fun q hq=>by
  have:=c0 q hq;have hl4:q<cs0.length:=by rw [l0];exact hq
  exact ⟨cs0[q],by rw [show j*4+q=j*(cu E).n+q from rfl,this];exact List.getElem?_eq_getElem hl4⟩
 refine ⟨hcell,fz0,tj (by simpa using hl) hc hm (hr g hgf) (by rw [fI];exact hgz) (fun i y hy=>?_)⟩
 by_cases hij:i=j
 . subst hij
   have hyx:y=x:=by
    rw [List.getElem?_set_self (by omega)] at hy;simpa using hy.symm
   subst hyx;obtain ⟨f,r,k⟩:=hx;have hne:∀b∈f,b≠g:=fun b hb e=>by have:=k b hb;clear r;omega
   have hin:∀b∈f,lo<=b/\b<hi:=fun b hb=>by have:=k b hb;clear r;omega
   refine ⟨[v0,v1,v2,v3],f,(cu E).rdKept r (fun b hb=>gN (hne b hb)) (by rw [fI];exact Nat.le_refl _),hin,fun q hq=>?_⟩
   have hq:q<4:=hq;obtain ⟨o0,e0⟩:=hcell 0 (by omega);obtain ⟨o1,e1⟩:=hcell 1 (by omega);obtain ⟨o2,e2⟩:=hcell 2 (by omega);obtain ⟨o3,e3⟩:=hcell 3 (by omega);rw [Nat.add_zero] at e0;unfold gL;show World.cell? _ ⟨g,i*4+q,none⟩=_
   match q,hq with
   | 0,_=>go_simp
   | 1,_=>go_simp
   | 2,_=>go_simp
   | 3,_=>go_simp
 rw [List.getElem?_set_ne (fun e=>hij e.symm)] at hy;obtain ⟨cs,m,ng,sub,c⟩:=hP i y hy;refine ⟨cs,PF i,(cu E).rdKept ((cu E).owRd m.1) (fun b hb=>gN (fun e=>ng (e▸hb))) (by rw [fI];exact Nat.le_refl _),fun b hb=>hr b (sub b hb),fun q hq=>?_⟩
 have hq:q<4:=hq;rw [←c q hq];unfold gL;show World.cell? _ ⟨g,i*4+q,none⟩=w.cell? ⟨g,i*4+q,none⟩
 have n0:¬i*4+q=j*4:=by omega
 have n1:¬i*4+q=j*4+1:=by omega
 have n2:¬i*4+q=j*4+2:=by omega
 have n3:¬i*4+q=j*4+3:=by omega
 go_simp
theorem vX {w:World} {gs n cap q lo hi l h':Nat} {ss:List (List Int)} {fs:List Nat} {v:Value} {z:List Int} (hM:aU.Mine w [.slice (some ⟨gs,0,none⟩) n cap] ss fs) (hq:q<n) (hx:aD.In w l h' [v] z) (hg:gs<l∨h'<=gs) (hr:∀b∈fs,lo<=b/\b<hi) (h1:lo<=l) (h2:h'<=hi):
 (∃old,w.cell? ⟨gs,q,none⟩=some old)/\w.frozen? ⟨gs,q,none⟩=false/\gs∈fs/\aU.In (w.setCell ⟨gs,q,none⟩ v) lo hi [.slice (some ⟨gs,0,none⟩) n cap] (ss.set q z):=by
 obtain ⟨hl,hc,hm⟩:=ag hM.rd;have hjl:ss[q]?=some (ss[q]'(by omega)):=List.getElem?_eq_getElem (by omega);obtain ⟨hgf,PF,hP,_⟩:=fF hM;obtain ⟨cs0,f0,m0,n0,_,s0,c0,fz0,_⟩:=rj hM hjl;have hgz:=hM.lt gs hgf;have l0:=aD.rdLen (aD.owRd m0.1);have hone:∃old,w.cell? ⟨gs,q,none⟩=some old:=by
  have:=c0 0 (by decide);have hl1:0<cs0.length:=by rw [l0];decide
  refine ⟨cs0[0],?_⟩
  rw [show q=q*aD.n+0 from by show q=q*1+0;omega,this];exact List.getElem?_eq_getElem hl1
 refine ⟨hone,fz0 q,hgf,tj (by simpa using hl) hc hm (hr gs hgf) (by simp;exact hgz) (fun i y hy=>?_)⟩
 by_cases hij:i=q
 . subst hij
   have hyx:y=z:=by
    rw [List.getElem?_set_self (by omega)] at hy;simpa using hy.symm
   subst hyx;obtain ⟨f,r,k⟩:=hx;have hne:∀b∈f,b≠gs:=fun b hb e=>by have:=k b hb;clear r;omega
   have hin:∀b∈f,lo<=b/\b<hi:=fun b hb=>by have:=k b hb;clear r;omega
   refine ⟨[v],f,aD.rdKept r (fun b hb=>Below.heap_setCell _ _ _ _ (hne b hb)) (by simp),hin,fun k' hk=>?_⟩
   have hk:k'=0:=by have:k'<1:=hk;omega
   subst hk;obtain ⟨old,ho⟩:=hone;show World.cell? _ ⟨gs,i*1+0,none⟩=_
   rw [show i*1+0=i from by omega];go_simp
 rw [List.getElem?_set_ne (fun e=>hij e.symm)] at hy;obtain ⟨cs,m,ng,sub,c⟩:=hP i y hy;refine ⟨cs,PF i,aD.rdKept (aD.owRd m.1) (fun b hb=>Below.heap_setCell _ _ _ _ (fun (e:b=gs)=>ng (e▸hb))) (by simp),fun b hb=>hr b (sub b hb),fun k' hk=>?_⟩
 have hk0:k'=0:=by have:k'<1:=hk;omega
 subst hk0;rw [←c 0 hk];show World.cell? _ ⟨gs,i*1+0,none⟩=w.cell? ⟨gs,i*1+0,none⟩
 rw [show i*1+0=i from by omega];go_simp
theorem vY {E F:TypeId} {w:World} {g n cap j q lo hi l h':Nat} {ms:List ai} {fm:List Nat} {ss:List (List Int)} {cs:List (Int×List Int)} {f:Bool} {bs:List Int} {v:Value} {z:List Int} (hM:(bI E F).Mine w [.slice (some ⟨g,0,none⟩) n cap] ms fm) (hj:ms[j]?=some (ss,cs,f,bs)) (hq:q<ss.length) (hz:aD.In w l h' [v] z) (hsep:∀b∈fm,b<l∨h'<=b) (hr:∀b∈fm,lo<=b/\b<hi) (h1:lo<=l) (h2:h'<=hi):
 ∃gs c0,w.cell? ⟨g,j*4,none⟩=some (.slice (some ⟨gs,0,none⟩) ss.length c0)/\gs∈fm/\gs≠g/\(∃old,w.cell? ⟨gs,q,none⟩=some old)/\w.frozen? ⟨gs,q,none⟩=false/\(bI E F).In (w.setCell ⟨gs,q,none⟩ v) lo hi [.slice (some ⟨g,0,none⟩) n cap] (ms.set j (ss.set q z,cs,f,bs)):=by
 obtain ⟨hl,hc,hm⟩:=ag hM.rd;have hjl:=(List.getElem?_eq_some_iff.1 hj).1;obtain ⟨hgf,PF,hP,hD⟩:=fF hM;have hgz:=hM.lt g hgf;obtain ⟨cs0,m0,ng0,sub0,c0⟩:=hP j _ hj;have l0:=(cu E).rdLen ((cu E).owRd m0.1);obtain ⟨v0,v1,v2,v3,rfl⟩:∃v0 v1 v2 v3,cs0=[v0,v1,v2,v3]:=by
  match cs0,l0 with
  | [v0,v1,v2,v3],_=>exact ⟨v0,v1,v2,v3,rfl⟩
 obtain ⟨a0,k0,a1,k1,a3,k3,ss',cs',f',bs',hxx,rfl,rfl,rfl,rfl,_,_,_⟩:=fV m0.rd;obtain ⟨rfl,rfl,rfl,rfl⟩:ss=ss'/\cs=cs'/\f=f'/\bs=bs':=by simpa using hxx
 obtain ⟨f0,g1,hF,p0,m1,d0⟩:=eK (t:=aU) (u:=er (aW E) (er fU aD)) (vs:=[_]) (us:=[_,_,_]) rfl m0;obtain ⟨f1,g2,rfl,p1,m2,d1⟩:=eK (t:=aW E) (u:=er fU aD) (vs:=[_]) (us:=[_,_]) rfl m1;obtain ⟨f2,f3,rfl,_,p3,d2⟩:=eK (t:=fU) (u:=aD) (vs:=[_]) (us:=[_]) rfl m2;obtain ⟨gs,rfl⟩:=cY p0 (by omega);have s0:∀b∈f0,b∈PF j:=fun b hb=>by rw [hF];exact List.mem_append.2 (.inl hb)
 have s1:∀b∈f1,b∈PF j:=fun b hb=>by rw [hF];exact List.mem_append.2 (.inr (List.mem_append.2 (.inl hb)))
 have s3:∀b∈f3,b∈PF j:=fun b hb=>by rw [hF];exact List.mem_append.2 (.inr (List.mem_append.2 (.inr (List.mem_append.2 (.inr hb)))))
 have hrj:∀b∈PF j,lo<=b/\b<hi:=fun b hb=>hr b (sub0 b hb);obtain ⟨q1,_⟩:=fF p0;have hgs:gs∈PF j:=s0 gs q1;obtain ⟨e1,e2,_,e4⟩:=vX p0 hq hz (hsep gs (sub0 gs hgs)) (fun b hb=>hrj b (s0 b hb)) h1 h2;have n1:gs∉f1:=fun hm=>d0 gs q1 (List.mem_append.2 (.inl hm));have n3:gs∉f3:=fun hm=>d0 gs q1 (List.mem_append.2 (.inr (List.mem_append.2 (.inr hm))));have c1:=(p1.setCell (g:=gs) (j:=q) n1 v).toIn (lo:=lo) (hi:=hi) (fun b hb=>hrj b (s1 b hb));have c3:=(p3.setCell (g:=gs) (j:=q) n3 v).toIn (lo:=lo) (hi:=hi) (fun b hb=>hrj b (s3 b hb));have hx:(cu E).In (w.setCell ⟨gs,q,none⟩ v) lo hi [.slice (some ⟨gs,0,none⟩) ss.length k0,.slice a1 cs.length k1,.bool f,.slice a3 bs.length k3] (ss.set q z,cs,f,bs):=vV e4 c1 c3;have hgg:gs≠g:=fun e=>ng0 (e▸hgs);refine ⟨gs,k0,c0 0 (show 0<4 by decide),sub0 gs hgs,hgg,e1,e2,tj (by simpa using hl) hc hm (hr g hgf) (by simp;exact hgz) (fun i y hy=>?_)⟩
 have hcell:∀p,(w.setCell ⟨gs,q,none⟩ v).cell? ⟨g,p,none⟩=w.cell? ⟨g,p,none⟩:=fun p=>World.cell?_of_block (w:=w) (Below.heap_setCell _ _ _ _ (fun (e:g=gs)=>hgg e.symm));by_cases hij:i=j
 . subst hij
   have hyx:y=(ss.set q z,cs,f,bs):=by
    rw [List.getElem?_set_self (by omega)] at hy;simpa using hy.symm
   subst hyx;obtain ⟨ff,r,k⟩:=hx;exact ⟨_,ff,r,k,fun p hp=>(hcell _).trans (c0 p hp)⟩
 rw [List.getElem?_set_ne (fun e=>hij e.symm)] at hy;obtain ⟨csi,mi,_,subi,ci⟩:=hP i y hy;have hil:=(List.getElem?_eq_some_iff.1 hy).1;have hni:gs∉PF i:=fun hm=>by
  rcases Nat.lt_or_gt_of_ne hij with h|h
  . exact hD i j h hjl gs hm hgs
  exact hD j i h hil gs hgs hm
 exact ⟨csi,PF i,(cu E).rdKept ((cu E).owRd mi.1) (fun b hb=>Below.heap_setCell _ _ _ _ (fun (e:b=gs)=>hni (e▸hb))) (by simp),fun b hb=>hr b (subi b hb),fun p hp=>(hcell _).trans (ci p hp)⟩
end Go.Proofs.YtgjomldcnjjpaaaGreat
