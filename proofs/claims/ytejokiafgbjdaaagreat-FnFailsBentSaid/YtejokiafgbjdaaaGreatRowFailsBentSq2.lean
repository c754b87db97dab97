/-
 The walk of the program's copyWords: the same numbers in memory of its own. Condition: at most 2097152.
-/
import Derived.Test.YtejokiafgbjdaaaGreatRowFailsBentSq1
import Derived.Maps.AppendAt
import Derived.Test.YtejokiafgbjdaaaGreatRows

set_option maxRecDepth 100000
set_option maxHeartbeats 8000000
set_option linter.unusedSimpArgs false

namespace Go.Proofs.YtejokiafgbjdaaaGreat
open Go.RowKit

theorem fj (w:World) (a b:Option Addr) (la lb ca cb:Nat) (xs ys:List Int) (hla:xs.length=la) (hlb:ys.length=lb) (hx:aF .i64 w a xs) (hy:aF .i64 w b ys) (hlen:la<=2097152):
 Calls Tryz.prog 127 #[.slice a la ca,.slice b lb cb] w fun e w'=>e=.returned (.bool (decide (xs=ys)))/\aH w w':=by
 by_cases hl:la=lb
 . subst hl
   go_enter Tryz.func127,Tryz.ntmps127
   go_wp2
   go_loopw [5] (fun i wr=>∃j:Nat,j<=la/\i=.int .i64 j/\xs.take j=ys.take j/\aH w wr) (fun i _=>la-(intOf i).toNat)
   case atStart=>exact ⟨0,Nat.zero_le _,rfl,rfl,aH.refl _⟩
   obtain ⟨j,hj,rfl,ht,hs⟩:=hrel;by_cases hlt:j<la
   . rcases hx.cases with h0|⟨bx,ox,rfl,hbx,hcx⟩
     . omega
     rcases hy.cases with h0|⟨bz,oy,rfl,hby,hcy⟩
     . omega
     have hx1:=(hs.cell ⟨bx,ox+j,none⟩).trans (hcx j (by omega));have hy1:=(hs.cell ⟨bz,oy+j,none⟩).trans (hcy j (by omega));have hd:=oU (xs:=xs) (ys:=ys) (j:=j) (by omega) (by omega);generalize xs.getD j 0=x at hx1 hd;generalize ys.getD j 0=y at hy1 hd;have HT:Hid (xs.take j=ys.take j):=ht;clear hcx hcy ht;by_cases hxy:x=y
     . subst hxy
       have HD:=hd.1 rfl HT.out;clear hd;go_wp2
       go_quiet (fail)
       go_wp2
       go_roundw
       case rel=>exact ⟨j+1,by omega,by go_num,HD,hs.drewN _⟩
       case measure=>simp [intOf];omega
     have hne:(x==y)=false:=by simpa using hxy
     have HN:=hd.2 hxy;clear hd;go_wp2
     go_quiet (fail)
     go_wp2
     go_ret
     exact ⟨ag (by simpa using HN),hs.drewN _⟩
   go_wp2
   go_ret
   have e:j=la:=by omega
   subst e;rw [List.take_of_length_le (by omega),List.take_of_length_le (by omega)] at ht;exact ⟨ag (by simp [ht]),hs⟩
 have hne:((la:Int)==(lb:Int))=false:=by simp;omega
 go_enter Tryz.func127,Tryz.ntmps127
 go_wp2
 go_ret
 exact ⟨ag (by simp;intro h;apply hl;rw [←hla,←hlb,h]),aH.refl _⟩
abbrev aA:Ty:=bH eo 3
abbrev aR:Ty:=bH aA 52
def cB (d:List (List Int)):Nat:=d.length+dw (d.map List.length)
abbrev tWr:Ty:=dO eo aA
abbrev aU (E:TypeId):Ty:=bH tWr E
def aY (d:List (Int×List Int)):Nat:=d.length+dw (d.map fun x=>x.2.length)
theorem eB {w:World} {v0 v1:Value} {d:Int×List Int} (h:tWr.Rd w [v0,v1] d):v0=.int .i64 d.1/\aA.Rd w [v1] d.2:=by
 obtain ⟨⟨_,h1,_⟩,h2⟩:=lh (t:=eo) (u:=aA) (vs:=[v0]) (us:=[v1]) rfl h;exact ⟨by simpa using h1,h2⟩
abbrev bC (E:TypeId):Ty:=dO aR (dO (aU E) (dO eY aA))
def aJ (d:List (List Int)×List (Int×List Int)×Bool×List Int):Nat:=cB d.1+aY d.2.1+d.2.2.2.length
theorem nS {w:World} {E:TypeId} {v0 v1 v2 v3:Value} {d:(bC E).D} (h:(bC E).Rd w [v0,v1,v2,v3] d):
 ∃a0 c0 a1 c1 a3 c3,v0=.slice a0 d.1.length c0/\v1=.slice a1 d.2.1.length c1/\v2=.bool d.2.2.1/\v3=.slice a3 d.2.2.2.length c3 /\
  aR.Rd w [.slice a0 d.1.length c0] d.1/\(aU E).Rd w [.slice a1 d.2.1.length c1] d.2.1/\aA.Rd w [.slice a3 d.2.2.2.length c3] d.2.2.2:=by
 obtain ⟨h0,h⟩:=lh (t:=aR) (vs:=[v0]) (us:=[v1,v2,v3]) rfl h;obtain ⟨h1,h⟩:=lh (t:=aU E) (vs:=[v1]) (us:=[v2,v3]) rfl h;obtain ⟨⟨_,h2,_⟩,h3⟩:=lh (t:=eY) (vs:=[v2]) (us:=[v3]) rfl h;obtain ⟨a0,c0,rfl⟩:=aw h0;obtain ⟨a1,c1,rfl⟩:=aw h1;obtain ⟨a3,c3,rfl⟩:=aw h3;exact ⟨a0,c0,a1,c1,a3,c3,rfl,rfl,by simpa using h2,rfl,h0,h1,h3⟩
theorem gu {w:World} {E:TypeId} {lo hi:Nat} {v0 v1 v3:Value} {f:Bool} {ss:List (List Int)} {cs:List (Int×List Int)} {bs:List Int} (h:(bC E).Own w lo hi [v0,v1,.bool f,v3] (ss,cs,f,bs)):
 aR.Rd w [v0] ss/\(aU E).Rd w [v1] cs/\aA.Rd w [v3] bs:=by
 obtain ⟨a0,c0,a1,c1,a3,c3,rfl,rfl,_,rfl,h0,h1,h3⟩:=nS h.rd;exact ⟨h0,h1,h3⟩
theorem bh {w:World} {lo:Nat} {v:Value} {zs:List Int} (h:br .i64 3 w lo v zs):aA.Own w lo w.heap.size [v] zs:=by
 have hlt:=h.own;rcases h.2 with ⟨hv,hn⟩|⟨g,cap,cur,hv,hb,hg,hnc,hcm,hcs,ht⟩
 . exact ⟨[],.inl ⟨by rw [hv],List.eq_nil_of_length_eq_zero hn,rfl⟩,by simp,by simp⟩
 have hgl:g<w.heap.size:=(Array.getElem?_eq_some_iff.1 hg).1;refine ⟨[g],.inr ⟨g,cap,cur,zs.map fun _=>[],by rw [hv],hnc,hcm,hg,hcs,by simp,by simp,fun i x hx=>?_⟩,by simp,by simp;omega⟩
 have hi:i<zs.length:=(List.getElem?_eq_some_iff.1 hx).1;refine ⟨[],by rw [List.getElem?_map,hx];rfl,?_,rfl⟩
 have e:cur.toList[i]?=some (.int .i64 x):=by
  have:(cur.toList.take (zs.length*1))[i]?=(zs.map (Value.int .i64))[i]?:=by rw [ht]
  rw [List.getElem?_take,if_pos (by omega),List.getElem?_map,hx] at this;exact this
 have hic:i<cur.toList.length:=(List.getElem?_eq_some_iff.1 e).1;show (cur.toList.drop (i*1)).take 1=_
 rw [Nat.mul_one,List.drop_eq_getElem_cons hic,List.take_succ_cons,List.take_zero];rw [List.getElem?_eq_getElem hic] at e;simp at e
 rw [Array.getElem_toList,e]
theorem Tryz.infoIntS:(Tryz.prog.info? 52).map (fun i=>(i.zero,i.size,i.bytes))=some (some (.slice none 0 0),1,24):=by kernel_rfl
theorem Tryz.infoWr:(Tryz.prog.info? 142).map (fun i=>(i.zero,i.size,i.bytes))=some (some (.agg #[.int .i64 0,.slice none 0 0]),2,32):=by kernel_rfl
theorem fC {d:List (List Int)} {j:Nat} {x:List Int} (h:d[j]?=some x):x.length<=cB d:=by
 have h1:=jE (l:=d.map List.length) (j:=j) (x:=x.length) (by rw [List.getElem?_map,h];rfl);have h2:=nQ (l:=d.map List.length) (j+1);unfold cB;omega
theorem bV {d:List (Int×List Int)} {j:Nat} {x:Int×List Int} (h:d[j]?=some x):x.2.length<=aY d:=by
 have h1:=jE (l:=d.map fun x=>x.2.length) (j:=j) (x:=x.2.length) (by rw [List.getElem?_map,h];rfl);have h2:=nQ (l:=d.map fun x=>x.2.length) (j+1);unfold aY;omega
theorem ge {t:Ty} {E:TypeId} (w:World) (lo hi:Nat):(bH t E).Own w lo hi [.slice none 0 0] []:=⟨[],.inl ⟨rfl,rfl,rfl⟩,by simp,by simp⟩
structure aq (fp:List Nat) (w w':World):Prop where
 os:w'.os=w.os
 tape:w'.tape=w.tape
 output:w'.output=w.output
 size:w.heap.size<=w'.heap.size
 block:∀k,k<w.heap.size->k∉fp->w'.heap[k]?=w.heap[k]?
theorem aq.refl (fp:List Nat) (w:World):aq fp w w:=⟨rfl,rfl,rfl,Nat.le_refl _,fun _ _ _=>rfl⟩
theorem aq.trans {fp:List Nat} {a b c:World} (h:aq fp a b) (k:aq fp b c):aq fp a c:=
 ⟨k.os.trans h.os,k.tape.trans h.tape,k.output.trans h.output,Nat.le_trans h.size k.size,fun i hi ho=>(k.block i (Nat.lt_of_lt_of_le hi h.size) ho).trans (h.block i hi ho)⟩
theorem aq.mono {fp fq:List Nat} {w w':World} (h:aq fp w w') (hs:∀b∈fp,b∈fq):aq fq w w':=
 ⟨h.os,h.tape,h.output,h.size,fun k hk ho=>h.block k hk (fun hm=>ho (hs k hm))⟩
theorem aq.but {fp:List Nat} {w w':World} {lo hi:Nat} (h:aq fp w w') (hs:∀b∈fp,lo<=b/\b<hi):But lo hi w w':=
 ⟨h.os,h.tape,h.output,h.size,fun k hk ho=>h.block k hk (fun hm=>by have:=hs k hm;omega)⟩
theorem aq.setCell {fp:List Nat} {w:World} {g j:Nat} (v:Value) (hg:g∈fp):aq fp w (w.setCell ⟨g,j,none⟩ v):=
 ⟨rfl,rfl,rfl,by simp [World.setCell],fun k _ hk=>Below.heap_setCell _ _ _ _ (by simp;exact fun e=>hk (e▸hg))⟩
theorem aH.turned {w w':World} (h:aH w w') (fp:List Nat):aq fp w w':=⟨h.os,h.tape,h.output,by rw [h.heap];exact Nat.le_refl _,fun _ _ _=>by rw [h.heap]⟩
def Ty.Mine (t:Ty) (w:World) (vs:List Value) (d:t.D) (fp:List Nat):Prop:=t.ow w vs d fp/\fp.Nodup
theorem Ty.Mine.rd {t:Ty} {w:World} {vs:List Value} {d:t.D} {fp:List Nat} (h:t.Mine w vs d fp):t.Rd w vs d:=⟨fp,t.owRd h.1⟩
theorem Ty.Mine.lt {t:Ty} {w:World} {vs:List Value} {d:t.D} {fp:List Nat} (h:t.Mine w vs d fp):∀b∈fp,b<w.heap.size:=t.rdLt (t.owRd h.1)
theorem Ty.Mine.kept {t:Ty} {w w':World} {vs:List Value} {d:t.D} {fp fq:List Nat} (h:t.Mine w vs d fp) (ht:aq fq w w') (hd:∀b∈fp,b∉fq):t.Mine w' vs d fp:=⟨t.owKept h.1 (fun b hb=>ht.block b (h.lt b hb) (hd b hb)) ht.size,h.2⟩
theorem Ty.Own.mine {t:Ty} {w:World} {lo hi:Nat} {vs:List Value} {d:t.D} (h:t.Own w lo hi vs d):∃fp,t.Mine w vs d fp/\∀b∈fp,lo<=b/\b<hi:=by
 obtain ⟨fp,h1,h2,h3⟩:=h;exact ⟨fp,⟨h1,h2⟩,h3⟩
theorem Ty.Mine.own {t:Ty} {w:World} {lo hi:Nat} {vs:List Value} {d:t.D} {fp:List Nat} (h:t.Mine w vs d fp) (hr:∀b∈fp,lo<=b/\b<hi):t.Own w lo hi vs d:=⟨fp,h.1,h.2,hr⟩
theorem eg {t u:Ty} {w:World} {vs us:List Value} {x:t.D} {y:u.D} {fp:List Nat} (ht:vs.length=t.n) (h:(dO t u).Mine w (vs++us) (x,y) fp):∃f1 f2,fp=f1++f2/\t.Mine w vs x f1/\u.Mine w us y f2/\∀b∈f1,b∉f2:=by
 obtain ⟨⟨f1,f2,hf,h1,h2,_⟩,hn⟩:=h;rw [List.take_left' ht] at h1;rw [List.drop_left' ht] at h2;rw [hf,List.nodup_append] at hn;exact ⟨f1,f2,hf,⟨h1,hn.1⟩,⟨h2,hn.2.1⟩,fun b hb hb'=>hn.2.2 b hb b hb' rfl⟩
theorem fk {t u:Ty} {w:World} {vs us:List Value} {x:t.D} {y:u.D} {f1 f2:List Nat} (h1:t.Mine w vs x f1) (h2:u.Mine w us y f2) (hd:∀b∈f1,b∉f2):(dO t u).Mine w (vs++us) (x,y) (f1++f2):=by
 have l1:=t.rdLen (t.owRd h1.1);have l2:=u.rdLen (u.owRd h2.1);refine ⟨⟨f1,f2,rfl,by rw [List.take_left' l1];exact h1.1,by rw [List.drop_left' l1];exact h2.1,by rw [List.length_append,l1,l2]⟩,?_⟩
 rw [List.nodup_append];exact ⟨h1.2,h2.2,fun a ha b hb e=>hd a ha (e▸hb)⟩
theorem oW {t:Ty} {E:TypeId} {w:World} {g n cap j:Nat} {d:List t.D} {x:t.D} {fp:List Nat} (hM:(bH t E).Mine w [.slice (some ⟨g,0,none⟩) n cap] d fp) (hx:d[j]?=some x):
 ∃cs f,t.Mine w cs x f/\g∉f/\g∈fp/\(∀b∈f,b∈fp)/\(∀k,k<t.n->w.cell? ⟨g,j*t.n+k,none⟩=cs[k]?)/\(∀k,w.frozen? ⟨g,k,none⟩=false) /\
  (∀w' x',t.Mine w' cs x' f->(∀b∈fp,b∉f->w'.heap[b]?=w.heap[b]?)->w.heap.size<=w'.heap.size->(bH t E).Mine w' [.slice (some ⟨g,0,none⟩) n cap] (d.set j x') fp) /\
  (∀w' cs' x',t.Mine w' cs' x' f->(∀b∈fp,b∉f->b≠g->w'.heap[b]?=w.heap[b]?)->w.heap.size<=w'.heap.size ->
   (∀cur,w.heap[g]?=some (.cells cur E (0,0))->cur.size=cap*t.n->n<=cap->∃cur',w'.heap[g]?=some (.cells cur' E (0,0))/\cur'.size=cur.size/\∀k,cur'.toList[k]?=if j*t.n<=k/\k<(j+1)*t.n then cs'[k-j*t.n]? else cur.toList[k]?) ->
   (bH t E).Mine w' [.slice (some ⟨g,0,none⟩) n cap] (d.set j x') fp):=by
 obtain ⟨h,hn⟩:=hM;have hN:=hn;rcases h with ⟨h1,_⟩|⟨b,cap',cur,fps,h1,h2,h3,h4,h5,h6,h7,h8⟩
 . simp at h1
 simp only [List.cons.injEq,Value.slice.injEq,Option.some.injEq,Addr.mk.injEq,and_true] at h1
 obtain ⟨rfl,rfl,rfl⟩:=h1;obtain ⟨f,hf,ho⟩:=h8 j x hx;rw [h6,List.nodup_cons] at hn;obtain ⟨hg,hnf⟩:=hn;obtain ⟨f1,f2,f3⟩:=ep hnf hf;have hgf:g∉f:=fun hm=>hg (f2 g hm);have hgp:g∈fp:=by rw [h6];exact List.mem_cons_self
 have hfp:∀b∈f,b∈fp:=fun b hb=>by rw [h6];exact List.mem_cons_of_mem _ (f2 b hb)
 have hjl:j<d.length:=(List.getElem?_eq_some_iff.1 hx).1;have hyx:∀x' y,(d.set j x')[j]?=some y->y=x':=fun x' y hy=>by
  rw [List.getElem?_set_self hjl] at hy;simpa using hy.symm
 have hin:∀i f',fps[i]?=some f'->∀b∈f',b∈fp/\b≠g:=fun i f' hf' b hb=>by
  have hm:b∈fps.flatten:=List.mem_flatten.2 ⟨f',List.mem_of_getElem? hf',hb⟩;exact ⟨by rw [h6];exact List.mem_cons_of_mem _ hm,fun e=>hg (e▸hm)⟩
 refine ⟨_,f,⟨ho,f1⟩,hgf,hgp,hfp,fun k hk=>?_,fun k=>frozen_of_row w g _ cur E h4,fun w' x' ho' hoth hsz=>?_,fun w' cs' x' ho' hoth hsz hnew=>?_⟩
 . rw [cell_of_row w g _ cur E (0,0) h4,List.getElem?_take,if_pos hk,List.getElem?_drop]
   simp
 . refine ⟨.inr ⟨g,cap,cur,fps,by rw [List.length_set],by rw [List.length_set];exact h2,h3,by rw [hoth g hgp hgf];exact h4,h5,h6,by rw [List.length_set];exact h7,fun i y hy=>?_⟩,hN⟩
   by_cases hij:i=j
   . subst hij
     rw [hyx x' y hy];exact ⟨f,hf,ho'.1⟩
   rw [List.getElem?_set_ne (fun e=>hij e.symm)] at hy;obtain ⟨f',hf',ho2⟩:=h8 i y hy;exact ⟨f',hf',t.owKept ho2 (fun b hb=>hoth b (hin i f' hf' b hb).1 (f3 i f' hf' hij b hb)) hsz⟩
 obtain ⟨cur',hc1,hc2,hc3⟩:=hnew cur h4 h5 h2;have hvl:=t.rdLen (t.owRd ho'.1);have hpart:∀i,((cur'.toList.drop (i*t.n)).take t.n)=if i=j then cs' else (cur.toList.drop (i*t.n)).take t.n:=by
  intro i;apply List.ext_getElem?
  intro k;rw [List.getElem?_take,List.getElem?_drop,hc3];by_cases hk:k<t.n
  . rw [if_pos hk]
    by_cases hij:i=j
    . subst hij
      rw [if_pos rfl,if_pos (by rw [Nat.add_mul];omega),Nat.add_sub_cancel_left]
    rw [if_neg hij,List.getElem?_take,if_pos hk,List.getElem?_drop,if_neg];intro hh;rcases Nat.lt_or_gt_of_ne hij with hlt|hgt
    . have:(i+1)*t.n<=j*t.n:=Nat.mul_le_mul_right _ hlt
      rw [Nat.add_mul] at this;omega
    have:(j+1)*t.n<=i*t.n:=Nat.mul_le_mul_right _ hgt;omega
  rw [if_neg hk];by_cases hij:i=j
  . rw [if_pos hij,List.getElem?_eq_none (by omega)]
  rw [if_neg hij,List.getElem?_take,if_neg hk]
 refine ⟨.inr ⟨g,cap,cur',fps,by rw [List.length_set],by rw [List.length_set];exact h2,h3,hc1,by rw [hc2];exact h5,h6,by rw [List.length_set];exact h7,fun i y hy=>?_⟩,hN⟩
 rw [hpart i];by_cases hij:i=j
 . subst hij
   rw [if_pos rfl,hyx x' y hy];exact ⟨f,hf,ho'.1⟩
 rw [if_neg hij];rw [List.getElem?_set_ne (fun e=>hij e.symm)] at hy;obtain ⟨f',hf',ho2⟩:=h8 i y hy;exact ⟨f',hf',t.owKept ho2 (fun b hb=>hoth b (hin i f' hf' b hb).1 (f3 i f' hf' hij b hb) (hin i f' hf' b hb).2) hsz⟩
theorem nT {t:Ty} {E:TypeId} {w:World} {n cap:Nat} {a:Option Addr} {d:List t.D} {fp:List Nat} (h:(bH t E).Mine w [.slice a n cap] d fp):n=0∨∃g,a=some ⟨g,0,none⟩:=by
 rcases h.1 with ⟨h1,_⟩|⟨b,cap',cur,fps,h1,_⟩
 . simp at h1
   exact .inl h1.2.1
 simp at h1
 exact .inr ⟨b,h1.1⟩
theorem nc {t:Ty} {E:TypeId} {w:World} {lo:Nat} {v:Value} {d:List t.D} {fp:List Nat} (h:(bH t E).Mine w [v] d fp) (hlo:∀b∈fp,lo<=b):
 ∃xs,w.ownsRow lo E t.n v d.length xs/\∀w' v' vs x f,t.Mine w vs x f->(∀b∈fp,b∉f)->w'.ownsRow lo E t.n v' (d.length+1) (xs++vs)->w.grownBy w' v.ownBlock->(v'.ownBlock=v.ownBlock∨v'.ownBlock=some w.heap.size) ->
  ∃fp',(bH t E).Mine w' [v'] (d++[x]) fp'/\(∀b∈fp',b∈fp∨b∈f∨(b=w.heap.size/\b<w'.heap.size))/\aq fp w w':=by
 obtain ⟨h,hn⟩:=h;rcases h with ⟨h1,rfl,rfl⟩|⟨b,cap,cur,fps,h1,h2,h3,h4,h5,rfl,h7,h8⟩
 . simp at h1
   subst h1;refine ⟨[],World.ownsRow_nil _ _ _ _,fun w' v' vs x f hx _ ho hg hat=>?_⟩
   rcases ho.2 with ⟨_,h0⟩|⟨g,cap',cur',hv,hb,hg',hnc,hcm,hcs,htake⟩
   . simp at h0
   have hgs:g=w.heap.size:=by
    rw [hv] at hat;simpa [Value.ownBlock] using hat
   have hgl:g<w'.heap.size:=(Array.getElem?_eq_some_iff.1 hg').1;subst hv;have hfl:[f].flatten=f:=by simp
   have hxlt:=hx.lt;refine ⟨g :: [f].flatten,⟨.inr ⟨g,cap',cur',[f],rfl,hnc,hcm,hg',hcs,rfl,rfl,fun i y hy=>?_⟩,?_⟩,?_,hg.os,hg.tape,hg.output,hg.size,fun k hk _=>hg.block k hk (by simp [Value.ownBlock])⟩
   . match i,hy with
     | 0,hy=>
      simp at hy
      subst hy;refine ⟨f,rfl,?_⟩
      rw [Nat.zero_mul,List.drop_zero];simp only [List.length_nil,Nat.zero_add,Nat.one_mul,List.nil_append] at htake
      rw [htake];exact t.owKept hx.1 (fun b hb=>hg.block b (hxlt b hb) (by simp [Value.ownBlock])) hg.size
   . rw [hfl,List.nodup_cons]
     refine ⟨fun hm=>?_,hx.2⟩
     have:=hxlt g hm;omega
   intro b hb;rw [hfl] at hb;rcases List.mem_cons.1 hb with rfl|hb
   . exact .inr (.inr ⟨hgs,hgl⟩)
   exact .inr (.inl hb)
 have hv:v=.slice (some ⟨b,0,none⟩) d.length cap:=by simpa using h1
 have hbl:b<w.heap.size:=(Array.getElem?_eq_some_iff.1 h4).1;have hle:d.length*t.n<=cap*t.n:=Nat.mul_le_mul_right _ h2;have hxl:(cur.toList.take (d.length*t.n)).length=d.length*t.n:=by
  have hcl:cur.toList.length=cap*t.n:=by rw [Array.length_toList];exact h5
  rw [List.length_take,hcl];omega
 refine ⟨cur.toList.take (d.length*t.n),⟨hxl,.inr ⟨b,cap,cur,hv,hlo b List.mem_cons_self,h4,h2,h3,h5,rfl⟩⟩,fun w' v' vs x f hx hdis ho hg hat=>?_⟩
 rw [List.nodup_cons] at hn;obtain ⟨hbf,hnf⟩:=hn;have hfplt:∀c∈fps.flatten,c<w.heap.size:=by
  intro c hc;obtain ⟨f',hf',hcf⟩:=List.mem_flatten.1 hc;obtain ⟨i,hi⟩:=List.mem_iff_getElem?.1 hf';have hil:i<d.length:=by rw [←h7];exact (List.getElem?_eq_some_iff.1 hi).1
  obtain ⟨f2,hf2,ho2⟩:=h8 i _ (List.getElem?_eq_getElem hil);rw [hi] at hf2;simp at hf2
  subst hf2;exact t.rdLt (t.owRd ho2) c hcf
 have hxlt:=hx.lt;have hbx:b∉f:=hdis b List.mem_cons_self;have hvl:=t.rdLen (t.owRd hx.1);have hkeep:∀c,c<w.heap.size->c≠b->w'.heap[c]?=w.heap[c]?:=fun c hc hne=>hg.block c hc (by rw [hv];simpa [Value.ownBlock] using hne);rcases ho.2 with ⟨_,h0⟩|⟨g,cap',cur',hv',hb,hg',hnc,hcm,hcs,htake⟩
 . omega
 have hgs:g=b∨g=w.heap.size:=by
  rw [hv',hv] at hat;simpa [Value.ownBlock] using hat
 have hgl:g<w'.heap.size:=(Array.getElem?_eq_some_iff.1 hg').1;subst hv';have hfl:(fps++[f]).flatten=fps.flatten++f:=by simp
 have hseg:∀i,i<d.length->(cur'.toList.drop (i*t.n)).take t.n=(cur.toList.drop (i*t.n)).take t.n:=by
  intro i hi;have hmul:(i+1)*t.n<=d.length*t.n:=Nat.mul_le_mul_right _ hi;rw [Nat.add_mul,Nat.one_mul] at hmul;apply List.ext_getElem?
  intro k;rw [List.getElem?_take,List.getElem?_take];by_cases hk:k<t.n
  . rw [if_pos hk,if_pos hk,List.getElem?_drop,List.getElem?_drop]
    have:=congrArg (fun l=>l[i*t.n+k]?) htake;simp only [List.getElem?_take] at this
    rw [if_pos (by rw [Nat.add_mul,Nat.one_mul];omega),List.getElem?_append_left (by rw [hxl];omega),List.getElem?_take,if_pos (by omega)] at this;exact this
  rw [if_neg hk,if_neg hk]
 have hlast:(cur'.toList.drop (d.length*t.n)).take t.n=vs:=by
  apply List.ext_getElem?
  intro k;rw [List.getElem?_take];by_cases hk:k<t.n
  . rw [if_pos hk,List.getElem?_drop]
    have:=congrArg (fun l=>l[d.length*t.n+k]?) htake;simp only [List.getElem?_take] at this
    rw [if_pos (by rw [Nat.add_mul,Nat.one_mul];omega),List.getElem?_append_right (by rw [hxl];omega),hxl,Nat.add_sub_cancel_left] at this;exact this
  rw [if_neg hk,List.getElem?_eq_none (by omega)]
 refine ⟨g :: (fps++[f]).flatten,⟨.inr ⟨g,cap',cur',fps++[f],by simp,by simpa using hnc,hcm,hg',hcs,rfl,by simp [h7],fun i y hy=>?_⟩,?_⟩,?_,hg.os,hg.tape,hg.output,hg.size,fun k hk hf=>hkeep k hk (fun e=>hf (by rw [e];exact List.mem_cons_self))⟩
 . by_cases hi:i<d.length
   . rw [List.getElem?_append_left hi] at hy
     obtain ⟨f2,hf2,ho2⟩:=h8 i y hy;refine ⟨f2,by rw [List.getElem?_append_left (by omega)];exact hf2,?_⟩
     rw [hseg i hi];refine t.owKept ho2 (fun c hc=>hkeep c (t.rdLt (t.owRd ho2) c hc) (fun e=>hbf ?_)) hg.size
     rw [←e];exact List.mem_flatten.2 ⟨f2,List.mem_of_getElem? hf2,hc⟩
   have hil:i=d.length:=by
    have:=(List.getElem?_eq_some_iff.1 hy).1;simp at this
    omega
   subst hil;rw [List.getElem?_append_right (Nat.le_refl _),Nat.sub_self] at hy;simp at hy
   subst hy;refine ⟨f,by rw [List.getElem?_append_right (by omega),h7,Nat.sub_self];rfl,?_⟩
   rw [hlast];exact t.owKept hx.1 (fun c hc=>hkeep c (hxlt c hc) (fun e=>hbx (e▸hc))) hg.size
 . rw [hfl,List.nodup_cons]
   refine ⟨fun hm=>?_,?_⟩
   . rcases List.mem_append.1 hm with hm|hm
     . rcases hgs with rfl|rfl
       . exact hbf hm
       have:=hfplt _ hm;omega
     rcases hgs with rfl|rfl
     . exact hbx hm
     have:=hxlt _ hm;omega
   rw [List.nodup_append];exact ⟨hnf,hx.2,fun a ha c hc e=>hdis a (List.mem_cons_of_mem _ ha) (e▸hc)⟩
 intro c hc;rw [hfl] at hc;rcases List.mem_cons.1 hc with rfl|hc
 . rcases hgs with rfl|hgs
   . exact .inl List.mem_cons_self
   exact .inr (.inr ⟨hgs,hgl⟩)
 rcases List.mem_append.1 hc with hc|hc
 . exact .inl (List.mem_cons_of_mem _ hc)
 exact .inr (.inl hc)
theorem bO {P:Program} {w:World} {ops:Array Oper} {rest:List Oper} {o:Oper} {a:Act} {Q:Exit->Act->World->Prop} (t:Ty) (hgd:o.guard=none) (s x:Operand) (T:TypeId)
 (ho:o.op=.call { callee:=.builtin .append,args:=#[s,x],argTypes:=#[T,T] })
 (E:TypeId) (i:TypeInfo) (z:Value) (bytes:Nat) (ht:P.underlying T=some (.slice E)) (hi:P.info? E=some i) (hz:i.zero=some z)
 (hsize:i.size=t.n) (hby:i.bytes=bytes) (hzs:z.cells.size=t.n) (hsz:0<t.n)
 (v:Value) (d:List t.D) (fp:List Nat) (hs:a.eval s=v) (hown:(bH t E).Mine w [v] d fp)
 (ad:Addr) (c:Nat) (vs:List Value) (y:t.D) (f:List Nat) (hx:a.eval x=.slice (some ad) 1 c) (hy:t.Mine w vs y f) (hdis:∀b∈fp,b∉f) (hr:∀j u,vs[j]?=some u->w.cell? (ad.add j)=some u) (h1:∀u∈vs,u.oneCell'=true)
 (h63:d.length+1<=maxLen) (hbytes:(d.length+1)*bytes<=140737488355328)
 (h:∀v' w' fp',(bH t E).Mine w' [v'] (d++[y]) fp'->(∀b∈fp',b∈fp∨b∈f∨(b=w.heap.size/\b<w'.heap.size))->aq fp w w'->wpList P ops Q rest (a.put o.dst v') w'):wpList P ops Q (o :: rest) a w:=by
 obtain ⟨xs,hrow,hback⟩:=nc (lo:=0) hown (fun _ _=>Nat.zero_le _);have hvl:=t.rdLen (t.owRd hy.1);refine wpList_append_own_at w hgd s x T ho 0 E i z t.n bytes ht hi hz hsize hby hzs hsz v d.length xs hs hrow ad 1 c vs hx (by omega) hr h1 h63 hbytes (Nat.zero_le _) ?_
 intro v' w' k1 k2 _ k4;obtain ⟨fp',m1,m2,m3⟩:=hback w' v' vs y f hy hdis k1 k2 k4;exact h v' w' fp' m1 m2 m3
theorem bX {P:Program} {w:World} {ops:Array Oper} {o:Oper} {a:Act} {K:Act->World->Prop} {Q:Exit->Act->World->Prop} {G:Prop} (t:Ty) (hgd:o.guard=none) (s x:Operand) (T:TypeId)
 (ho:o.op=.call { callee:=.builtin .append,args:=#[s,x],argTypes:=#[T,T] })
 (E:TypeId) (i:TypeInfo) (z:Value) (bytes:Nat) (ht:P.underlying T=some (.slice E)) (hi:P.info? E=some i) (hz:i.zero=some z)
 (hsize:i.size=t.n) (hby:i.bytes=bytes) (hzs:z.cells.size=t.n) (hsz:0<t.n)
 (v:Value) (d:List t.D) (fp:List Nat) (hs:a.eval s=v) (hown:(bH t E).Mine w [v] d fp)
 (ad:Addr) (c:Nat) (vs:List Value) (y:t.D) (f:List Nat) (hx:a.eval x=.slice (some ad) 1 c) (hy:t.Mine w vs y f) (hdis:∀b∈fp,b∉f) (hr:∀j u,vs[j]?=some u->w.cell? (ad.add j)=some u) (h1:∀u∈vs,u.oneCell'=true)
 (h63:d.length+1<=maxLen) (hbytes:(d.length+1)*bytes<=140737488355328)
 (h:∀g cap w' fp',(bH t E).Mine w' [.slice (some ⟨g,0,none⟩) (d.length+1) cap] (d++[y]) fp'->(∀b∈fp',b∈fp∨b∈f∨(b=w.heap.size/\b<w'.heap.size))->aq fp w w'->K (a.put o.dst (.slice (some ⟨g,0,none⟩) (d.length+1) cap)) w'):
 if Region.wanted o (yielded ops a.tmps)=true then Oper.wp P o a w K Q else G:=by
 obtain ⟨xs,hrow,hback⟩:=nc (lo:=0) hown (fun _ _=>Nat.zero_le _);have hvl:=t.rdLen (t.owRd hy.1);refine step_append_lies w hgd s x T ho 0 E i z t.n bytes ht hi hz hsize hby hzs hsz v d.length xs hs hrow ad 1 c vs hx (by omega) hr h1 Nat.zero_lt_one h63 hbytes (Nat.zero_le _) w.heap.size rfl ?_
 intro g cap w' k1 k2 k3 _;obtain ⟨fp',m1,m2,m3⟩:=hback w' _ vs y f hy hdis k1 k2 (by
  rcases k3 with k3|k3
  . exact .inl k3.symm
  exact .inr (by rw [k3];rfl))
 exact h g cap w' fp' m1 m2 m3
def Box (w:World) (B:Nat) (T:TypeId) (cs:Array Value):Prop:=w.heap[B]?=some (.cells cs T (0,0))
theorem Box.cell {w:World} {B:Nat} {T:TypeId} {cs:Array Value} (h:Box w B T cs) (j:Nat):w.cell? ⟨B,j,none⟩=cs[j]?:=cell_of_row w B j cs T (0,0) h
theorem Box.cells4 {w:World} {B:Nat} {T:TypeId} {v0 v1 v2 v3:Value} (h:Box w B T #[v0,v1,v2,v3]):w.cell? ⟨B,0,none⟩=some v0/\w.cell? ⟨B,1,none⟩=some v1/\w.cell? ⟨B,2,none⟩=some v2/\w.cell? ⟨B,3,none⟩=some v3:=
 ⟨h.cell 0,h.cell 1,h.cell 2,h.cell 3⟩
theorem Box.cells2 {w:World} {B:Nat} {T:TypeId} {v0 v1:Value} (h:Box w B T #[v0,v1]):w.cell? ⟨B,0,none⟩=some v0/\w.cell? ⟨B,1,none⟩=some v1:=⟨h.cell 0,h.cell 1⟩
theorem Box.frozen {w:World} {B:Nat} {T:TypeId} {cs:Array Value} (h:Box w B T cs) (j:Nat):w.frozen? ⟨B,j,none⟩=false:=frozen_of_row w B j cs T h
theorem Box.lt {w:World} {B:Nat} {T:TypeId} {cs:Array Value} (h:Box w B T cs):B<w.heap.size:=(Array.getElem?_eq_some_iff.1 h).1
theorem Box.kept {w w':World} {B:Nat} {T:TypeId} {cs:Array Value} (h:Box w B T cs) (hk:w'.heap[B]?=w.heap[B]?):Box w' B T cs:=hk.trans h
theorem Box.below {w w':World} {B N:Nat} {T:TypeId} {cs:Array Value} (h:Box w B T cs) (hb:Below N w w') (hN:B<N):Box w' B T cs:=h.kept (hb.block B hN)
theorem Box.turned {w w':World} {B:Nat} {T:TypeId} {cs:Array Value} {fp:List Nat} (h:Box w B T cs) (ht:aq fp w w') (hB:B∉fp):Box w' B T cs:=h.kept (ht.block B h.lt hB)
theorem Box.same {w w':World} {B:Nat} {T:TypeId} {cs:Array Value} (h:Box w B T cs) (hs:aH w w'):Box w' B T cs:=h.kept (by rw [hs.heap])
theorem Box.set {w:World} {B:Nat} {T:TypeId} {cs:Array Value} (h:Box w B T cs) (j:Nat) (v:Value):Box (w.setCell ⟨B,j,none⟩ v) B T (cs.setIfInBounds j v):=heap_setCell_same w B j cs T v h
theorem Box.other {w:World} {B g:Nat} {T:TypeId} {cs:Array Value} (h:Box w B T cs) (hne:B≠g) (j:Nat) (v:Value):Box (w.setCell ⟨g,j,none⟩ v) B T cs:=h.kept (Below.heap_setCell _ _ _ _ hne)
theorem Box.alloc {w:World} {B:Nat} {T:TypeId} {cs:Array Value} (h:Box w B T cs) (o:Obj):Box (w.alloc o) B T cs:=h.kept (((Below.refl (B+1) w).alloc h.lt o).block B (Nat.lt_succ_self _))
theorem Box.new (w:World) (T:TypeId) (cs:Array Value):Box (w.alloc (.cells cs T)) w.heap.size T cs:=heap_alloc_new w _
theorem aq.alloc {fp:List Nat} {w w':World} (h:aq fp w w') (o:Obj):aq fp w (w'.alloc o):=
 ⟨h.os,h.tape,h.output,Nat.le_trans h.size (by simp),fun k hk hf=>(((Below.refl (k+1) w').alloc (Nat.lt_of_lt_of_le hk h.size) o).block k (Nat.lt_succ_self _)).trans (h.block k hk hf)⟩
theorem aq.below {fp:List Nat} {w w':World} {N:Nat} (h:aq fp w w') (hN:N<=w.heap.size) (hf:∀b∈fp,N<=b):Below N w w':=
 ⟨h.os,h.tape,h.output,h.size,fun k hk=>h.block k (by omega) (fun hm=>by have:=hf k hm;omega)⟩
theorem aq.ofBelow {w w':World} (h:Below w.heap.size w w') (fp:List Nat):aq fp w w':=⟨h.os,h.tape,h.output,h.size,fun k hk _=>h.block k hk⟩
theorem Ty.Mine.below {t:Ty} {w w':World} {vs:List Value} {d:t.D} {fp:List Nat} (h:t.Mine w vs d fp) (hb:Below w.heap.size w w'):t.Mine w' vs d fp:=h.kept (aq.ofBelow hb []) (by simp)
theorem Ty.Mine.alloc {t:Ty} {w:World} {vs:List Value} {d:t.D} {fp:List Nat} (h:t.Mine w vs d fp) (o:Obj):t.Mine (w.alloc o) vs d fp:=h.kept ((aq.refl [] w).alloc o) (by simp)
theorem Ty.Mine.setCell {t:Ty} {w:World} {vs:List Value} {d:t.D} {fp:List Nat} {g j:Nat} (h:t.Mine w vs d fp) (hg:g∉fp) (v:Value):t.Mine (w.setCell ⟨g,j,none⟩ v) vs d fp:=
 h.kept (aq.setCell (fp:=[g]) v (by simp)) (fun b hb hb'=>hg (by simp at hb';exact hb'▸hb))
theorem Ty.Rd.turned {t:Ty} {w w':World} {vs:List Value} {d:t.D} {fp fq:List Nat} (h:t.rd w vs d fp) (ht:aq fq w w') (hd:∀b∈fp,b∉fq):t.rd w' vs d fp:=t.rdKept h (fun b hb=>ht.block b (t.rdLt h b hb) (hd b hb)) ht.size
theorem cR {t:Ty} {E:TypeId} (w:World):(bH t E).Mine w [.slice none 0 0] [] []:=⟨.inl ⟨rfl,rfl,rfl⟩,by simp⟩
theorem eh {t:Ty} {E:TypeId} (w:World):(bH t E).Mine (w.alloc (.cells #[] E)) [.slice (some ⟨w.heap.size,0,none⟩) 0 0] [] [w.heap.size]:=
 ⟨.inr ⟨w.heap.size,0,#[],[],rfl,Nat.le_refl _,by omega,heap_alloc_new w _,by simp,rfl,rfl,fun i x hx=>by simp at hx⟩,by simp⟩
theorem aZ (w:World) (cs:Array Value) (T:TypeId):∀j u,cs.toList[j]?=some u->(w.alloc (.cells cs T)).cell? ((⟨w.heap.size,0,none⟩:Addr).add j)=some u:=World.news_of_block (heap_alloc_new w _)
def inB (x least most:Int):Bool:=decide (least<=x)&&decide (x<=most)
theorem aB (x least most:Int) (w:World):Calls Tryz.prog 66 #[.int .i64 x,.int .i64 least,.int .i64 most] w fun e w'=>e=.returned (.bool (inB x least most))/\w'=w:=by
 unfold inB;by_cases h0:least<=x
 . by_cases h1:x<=most
   . go_enter Tryz.func66,Tryz.ntmps66
     go_wp2
     go_ret
     exact ⟨ag (by simp [h0,h1]),rfl⟩
   go_enter Tryz.func66,Tryz.ntmps66
   go_wp2
   go_ret
   exact ⟨ag (by symm;simp;omega),rfl⟩
 go_enter Tryz.func66,Tryz.ntmps66
 go_wp2
 go_ret
 exact ⟨ag (by symm;simp;omega),rfl⟩
theorem bL (x least most:Int) (w:World):Calls Tryz.prog 129 #[.int .i64 x,.int .i64 least,.int .i64 most] w fun e w'=>e=.returned (.bool (inB x least most))/\w'=w:=by
 unfold inB;by_cases h0:least<=x
 . by_cases h1:x<=most
   . go_enter Tryz.func129,Tryz.ntmps129
     go_wp2
     go_ret
     exact ⟨ag (by simp [h0,h1]),rfl⟩
   go_enter Tryz.func129,Tryz.ntmps129
   go_wp2
   go_ret
   exact ⟨ag (by symm;simp;omega),rfl⟩
 go_enter Tryz.func129,Tryz.ntmps129
 go_wp2
 go_ret
 exact ⟨ag (by symm;simp;omega),rfl⟩
def isW (n:Int):Bool:=decide (0<=n)&&decide (n<=65535)
def cE (l:List Int):Bool:=l.all isW
def da (l:List Int):Bool:=decide (l.length<=12)&&cE l
theorem ni {zs:List Int} {j:Nat} {x:Int} (h:j<zs.length) (hx:zs.getD j 0=x):
 (isW x=true->cE (zs.take j)=true->cE (zs.take (j+1))=true)/\(isW x=false->cE zs=false):=by
 have e:zs[j]=x:=by rw [←hx];simp [List.getElem?_eq_getElem h]
 refine ⟨fun h1 h2=>?_,fun h1=>?_⟩
 . unfold cE at *
   rw [List.take_succ_eq_append_getElem h,List.all_append,h2,e];simp [h1]
 unfold cE;rw [List.all_eq_false];exact ⟨x,by rw [←e];exact List.getElem_mem h,by simp [h1]⟩
theorem bK (w:World) (a:Option Addr) (n cap:Nat) (zs:List Int) (h:aA.Rd w [.slice a n cap] zs) (hn:n<=2097152):
 Calls Tryz.prog 107 #[.slice a n cap] w fun e w'=>∃a' c',e=.returned (.slice a' n c')/\aA.Own w' w.heap.size w'.heap.size [.slice a' n c'] zs/\Below w.heap.size w w':=by
 obtain ⟨i0,hi,hz0,hz1,hz2⟩:=info_parts Tryz.info3;obtain ⟨hr,hl,_,_⟩:=aO h;have hA:Below w.heap.size w (w.alloc (.cells #[] 3)):=(Below.refl _ _).alloc (Nat.le_refl _) _;have hO:br .i64 3 (w.alloc (.cells #[] 3)) w.heap.size (.slice (some ⟨w.heap.size,0,none⟩) 0 0) []:=br.lit .i64 3 w [] 0 #[] rfl rfl (by unfold maxLen;omega);match a,h,hr with
 | none,h,_=>
  obtain ⟨rfl,rfl,rfl⟩:=lg h;go_enter Tryz.func107,Tryz.ntmps107
  go_wp2_with (at_builtin;refine wpList_append_own_none rfl _ _ 52 rfl w.heap.size 3 i0 1 Tryz.underlying52 hi _ 0 [] rfl hO rfl ?_)
  go_ret
  exact ⟨_,_,rfl,bh hO,hA⟩
 | some ad,_,hr=>
  have hr1:=hr.below hA;go_enter Tryz.func107,Tryz.ntmps107
  go_wp2_with (at_builtin;refine cY .i64 rfl _ _ 52 rfl w.heap.size 3 i0 (.int .i64 0) 8 Tryz.underlying52 hi hz0 hz1 hz2 rfl _ [] rfl hO ad n cap zs rfl hl hr1 (by unfold maxLen;simp;omega) (by simp;omega) (by simp) ?_;intro v' w1 ho1 hb1;obtain ⟨a1,c1,hv1,_⟩:=ho1.shape;rw [List.nil_append,hl] at hv1;rw [List.nil_append] at ho1;subst hv1)
  go_ret
  exact ⟨_,_,rfl,bh ho1,hA.trans hb1⟩
end Go.Proofs.YtejokiafgbjdaaaGreat
