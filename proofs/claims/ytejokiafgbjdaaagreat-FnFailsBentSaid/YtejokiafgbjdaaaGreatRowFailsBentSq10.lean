/-
 The library's contracts of slices.Insert at []int, laid at this seat's program: a table of numbers, and each body compared by the kernel. No condition.
-/
import Derived.Test.YtejokiafgbjdaaaGreatRowFailsBentSq5
import Derived.Test.YtejokiafgbjdaaaGreatRowFailsBentSq2
import Derived.Test.YtejokiafgbjdaaaGreatRowFailsBentSq6
import Derived.Test.YtejokiafgbjdaaaGreatRowFailsBentSq3
import Derived.Lib.SliceRun
import Derived.Shelf.Spec.SlicesInsertGrow

set_option maxRecDepth 100000
set_option maxHeartbeats 8000000
set_option linter.unusedSimpArgs false

namespace Go.Proofs.YtejokiafgbjdaaaGreat
open Go.RowKit

abbrev bk (E F:TypeId):Ty:=bH (bC E) F
abbrev ai:Type:=List (List Int)×List (Int×List Int)×Bool×List Int
def aK (d:List ai):Nat:=d.length+dw (d.map aJ)
theorem cD {d:List ai} {j:Nat} {x:ai} (h:d[j]?=some x):aJ x<=aK d:=by
 have h1:=jE (l:=d.map aJ) (j:=j) (x:=aJ x) (by rw [List.getElem?_map,h];rfl);have h2:=nQ (l:=d.map aJ) (j+1);unfold aK;omega
theorem dP {E:TypeId} {w:World} {v0 v1 v2 v3:Value} {x:ai} (h:(bC E).Rd w [v0,v1,v2,v3] x):
 ∃a0 c0 a1 c1 a3 c3 ss cs f bs,x=(ss,cs,f,bs)/\v0=.slice a0 ss.length c0/\v1=.slice a1 cs.length c1/\v2=.bool f/\v3=.slice a3 bs.length c3/\aR.Rd w [.slice a0 ss.length c0] ss/\(aU E).Rd w [.slice a1 cs.length c1] cs/\aA.Rd w [.slice a3 bs.length c3] bs:=by
 obtain ⟨ss,cs,f,bs⟩:=x;obtain ⟨a0,c0,a1,c1,a3,c3,rfl,rfl,rfl,rfl,h0,h1,h3⟩:=nS h;exact ⟨a0,c0,a1,c1,a3,c3,ss,cs,f,bs,rfl,rfl,rfl,rfl,rfl,h0,h1,h3⟩
theorem Tryz.infoMem:(Tryz.prog.info? 78).map (fun i=>(i.zero,i.size,i.bytes))=some (some (.agg #[.slice none 0 0,.slice none 0 0,.bool false,.slice none 0 0]),4,80):=by kernel_rfl
theorem gx {t:Ty} {E:TypeId} {w:World} {g n cap j:Nat} {d:List t.D} {v:Value} {x:t.D} {fp f:List Nat} (ht:t.n=1) (h:(bH t E).Mine w [.slice (some ⟨g,0,none⟩) n cap] d fp)
 (hj:j<n) (hx:t.Mine w [v] x f) (hdis:∀b∈f,b∉fp):
 (∃old,w.cell? ⟨g,j,none⟩=some old)/\w.frozen? ⟨g,j,none⟩=false/\g∈fp/\∃fp',(bH t E).Mine (w.setCell ⟨g,j,none⟩ v) [.slice (some ⟨g,0,none⟩) n cap] (d.set j x) fp'/\∀b∈fp',b∈fp∨b∈f:=by
 obtain ⟨h,hn⟩:=h;obtain ⟨hx,hn'⟩:=hx;rcases h with ⟨h1,_⟩|⟨b,cap',cur,fps,h1,h2,h3,h4,h5,h6,h7,h8⟩
 . simp at h1
 simp only [List.cons.injEq,Value.slice.injEq,Option.some.injEq,Addr.mk.injEq,and_true] at h1
 obtain ⟨rfl,rfl,rfl⟩:=h1;have hgp:g∈fp:=by rw [h6];exact List.mem_cons_self
 have hjc:j<cur.size:=by rw [h5,ht];omega
 have hgf':g∉f:=fun hm=>hdis g hm hgp;rw [h6,List.nodup_cons] at hn;obtain ⟨hgf,hnf⟩:=hn;have hd2:∀b∈f,b∉fps.flatten:=fun b hb hbl=>hdis b hb (by rw [h6];exact List.mem_cons_of_mem _ hbl);obtain ⟨hsn,hsm⟩:=gd fps j f hnf hn' hd2;have hoth:∀b,b≠g->(w.setCell ⟨g,j,none⟩ v).heap[b]?=w.heap[b]?:=fun b hb=>Below.heap_setCell _ _ _ _ hb;have hsz:w.heap.size<=(w.setCell ⟨g,j,none⟩ v).heap.size:=by simp
 refine ⟨⟨cur[j],?_⟩,frozen_of_row w g j cur E h4,hgp,g :: (fps.set j f).flatten,⟨.inr ⟨g,cap,cur.setIfInBounds j v,fps.set j f,by rw [List.length_set],by rw [List.length_set];exact h2,h3,heap_setCell_same w g j cur E v h4,by simpa using h5,rfl,by rw [List.length_set,List.length_set];exact h7,fun i y hy=>?_⟩,?_⟩,?_⟩
 . rw [cell_of_row w g j cur E (0,0) h4,Array.getElem?_eq_getElem hjc]
 . by_cases hij:i=j
   . subst hij
     have hyx:y=x:=by
      rw [List.getElem?_set_self (by omega)] at hy;simpa using hy.symm
     subst hyx;refine ⟨f,List.getElem?_set_self (by rw [h7];omega),?_⟩
     have e:((cur.setIfInBounds i v).toList.drop (i*t.n)).take t.n=[v]:=by
      rw [ht,Nat.mul_one,Array.toList_setIfInBounds,List.drop_set,if_neg (by omega),Nat.sub_self,List.drop_eq_getElem_cons (by simpa using hjc),List.set_cons_zero];simp
     rw [e];exact t.owKept hx (fun b hb=>hoth b (fun e=>hgf' (e▸hb))) hsz
   rw [List.getElem?_set_ne (fun e=>hij e.symm)] at hy;obtain ⟨f2,hf,ho⟩:=h8 i y hy;refine ⟨f2,by rw [List.getElem?_set_ne (fun e=>hij e.symm)];exact hf,?_⟩
   have e:((cur.setIfInBounds j v).toList.drop (i*t.n)).take t.n=(cur.toList.drop (i*t.n)).take t.n:=by
    rw [ht,Nat.mul_one,Array.toList_setIfInBounds];apply List.ext_getElem?
    intro k;rw [List.getElem?_take,List.getElem?_take,List.getElem?_drop,List.getElem?_drop];by_cases hk:k<1
    . rw [if_pos hk,if_pos hk,List.getElem?_set_ne (by omega)]
    rw [if_neg hk,if_neg hk]
   rw [e];exact t.owKept ho (fun b hb=>hoth b (fun e'=>hgf (by rw [←e'];exact List.mem_flatten.2 ⟨f2,List.mem_of_getElem? hf,hb⟩))) hsz
 . rw [List.nodup_cons]
   refine ⟨fun hm=>?_,hsn⟩
   rcases hsm g hm with hm|hm
   . exact hgf' hm
   exact hgf hm
 intro b hb;rcases List.mem_cons.1 hb with rfl|hb
 . exact .inl hgp
 rcases hsm b hb with hb|hb
 . exact .inr hb
 exact .inl (by rw [h6];exact List.mem_cons_of_mem _ hb)
theorem iX:∀(fs:List (List Nat)) (i j:Nat) (f f':List Nat),fs.flatten.Nodup->fs[i]?=some f->fs[j]?=some f'->i<j->∀b∈f,b∉f'
 | [],i,_,_,_,_,h,_,_=>by simp at h
 | g :: fs,0,j+1,f,f',hn,hi,hj,_=>by
  simp at hi
  subst hi;rw [List.flatten_cons,List.nodup_append] at hn;intro b hb hb';refine hn.2.2 b hb b (List.mem_flatten.2 ⟨f',List.mem_of_getElem? (i:=j) (by simpa using hj),hb'⟩) rfl
 | g :: fs,i+1,j+1,f,f',hn,hi,hj,hij=>by
  rw [List.flatten_cons,List.nodup_append] at hn;exact iX fs i j f f' hn.2.1 (by simpa using hi) (by simpa using hj) (by omega)
 | g :: fs,i,0,f,f',_,_,_,hij=>by omega
theorem eG {t:Ty} {E:TypeId} {w:World} {g n cap:Nat} {d:List t.D} {fp:List Nat} (h:(bH t E).Mine w [.slice (some ⟨g,0,none⟩) n cap] d fp):
 g∈fp/\∃F:Nat->List Nat,(∀i x,d[i]?=some x->∃cs,t.Mine w cs x (F i)/\g∉F i/\(∀b∈F i,b∈fp)/\∀k,k<t.n->w.cell? ⟨g,i*t.n+k,none⟩=cs[k]?)/\∀i j,i<j->j<d.length->∀b∈F i,b∉F j:=by
 obtain ⟨h,hn⟩:=h;rcases h with ⟨h1,_⟩|⟨b,cap',cur,fps,h1,h2,h3,h4,h5,h6,h7,h8⟩
 . simp at h1
 simp only [List.cons.injEq,Value.slice.injEq,Option.some.injEq,Addr.mk.injEq,and_true] at h1
 obtain ⟨rfl,rfl,rfl⟩:=h1;rw [h6,List.nodup_cons] at hn;obtain ⟨hgf,hnf⟩:=hn;refine ⟨by rw [h6];exact List.mem_cons_self,fun i=>fps.getD i [],fun i x hx=>?_,fun i j hij hj b hb hb'=>?_⟩
 . obtain ⟨f,hf,ho⟩:=h8 i x hx
   obtain ⟨k1,k2,_⟩:=ep hnf hf;have hgd:fps.getD i []=f:=by rw [List.getD_eq_getElem?_getD,hf];rfl
   simp only [hgd]
   refine ⟨_,⟨ho,k1⟩,fun hm=>hgf (k2 g hm),fun b hb=>by rw [h6];exact List.mem_cons_of_mem _ (k2 b hb),fun k hk=>?_⟩
   rw [cell_of_row w g _ cur E (0,0) h4,List.getElem?_take,if_pos hk,List.getElem?_drop];simp
 have e1:fps[i]?=some (fps.getD i []):=by rw [List.getD_eq_getElem?_getD,List.getElem?_eq_getElem (by omega)];rfl
 have e2:fps[j]?=some (fps.getD j []):=by rw [List.getD_eq_getElem?_getD,List.getElem?_eq_getElem (by omega)];rfl
 exact iX fps i j _ _ hnf e1 e2 hij b hb hb'
theorem ly {ss:List (List Int)} {cs:List (Int×List Int)} {bs:List Int} (h:aW ss cs bs=true):∀x∈cs,0<=x.1/\x.1<=20:=by
 unfold aW at h;simp only [Bool.and_eq_true,List.all_eq_true] at h
 obtain ⟨_,h2,_,h4,_⟩:=h;intro x hx;have h5:=h2 x hx;unfold wrB inB at h5;unfold inB at h4;simp at h4 h5
 omega
theorem jn {ss:List (List Int)} {cs:List (Int×List Int)} {bs:List Int} (h:aW ss cs bs=true):ss.length<=20:=by
 unfold aW at h;simp only [Bool.and_eq_true] at h
 obtain ⟨_,_,_,h4,_⟩:=h;unfold inB at h4;simp at h4
 omega
theorem nj (q:Int) (zs:List Int):∀(l:List (Int×List Int)) (acc:Option (List Int)),l.foldl (fun acc x=>if x.1=q then some x.2 else acc) acc=some zs->acc=some zs∨(q,zs)∈l
 | [],acc,h=>.inl h
 | x :: l,acc,h=>by
  rw [List.foldl_cons] at h;rcases nj q zs l _ h with h1|h1
  . by_cases hx:x.1=q
    . rw [if_pos hx] at h1
      simp at h1
      right
      rw [←hx,←h1];exact List.mem_cons_self
    rw [if_neg hx] at h1;exact .inl h1
  exact .inr (List.mem_cons_of_mem _ h1)
theorem jI {l:List (Int×List Int)} {q:Int} {zs:List Int} (h:cG l q=some zs):(q,zs)∈l:=by
 rcases nj q zs l none h with h1|h1
 . simp at h1
 exact h1
theorem sS {l:List (Int×List Int)} {q:Int} {zs:List Int} {N:Nat} (hw:aY l<=N) (h:cG l q=some zs):zs.length<=N:=by
 obtain ⟨j,hj⟩:=List.mem_iff_getElem?.1 (jI h);exact Nat.le_trans (bV hj) hw
theorem mM {ss:List (List Int)} {cs:List (Int×List Int)} {bs:List Int} (h:aW ss cs bs=true):∀x∈cs,∃q:Nat,x.1=(q:Int)/\q<ss.length:=by
 unfold aW at h;simp only [Bool.and_eq_true,List.all_eq_true] at h
 obtain ⟨_,h2,_⟩:=h;intro x hx;have h5:=h2 x hx;unfold wrB inB at h5;simp at h5
 exact ⟨x.1.toNat,by omega,by omega⟩
theorem sT {ss:List (List Int)} {cs:List (Int×List Int)} {bs:List Int} (h:aW ss cs bs=true):0<ss.length:=by
 unfold aW at h;simp only [Bool.and_eq_true] at h
 obtain ⟨_,_,_,h4,_⟩:=h;unfold inB at h4;simp at h4
 omega
theorem gI {ss:List (List Int)} {cs:List (Int×List Int)} {bs:List Int} (h:aW ss cs bs=true):(∀x∈ss,x.length<=12)/\∀x∈cs,x.2.length<=12:=by
 unfold aW at h;simp only [Bool.and_eq_true,List.all_eq_true] at h
 obtain ⟨h1,h2,_⟩:=h;refine ⟨fun x hx=>?_,fun x hx=>?_⟩
 . have:=h1 x hx
   unfold da at this;simp at this
   omega
 have:=h2 x hx;unfold wrB da at this;simp at this
 omega
def db (ss:List (List Int)) (ks:List (Int×List Int)):List (List Int):=(List.range ss.length).map fun (k:Nat)=>(cG ks (k:Int)).getD (ss.getD k [])
def fI (ss:List (List Int)) (ks:List (Int×List Int)) (j:Nat):List (List Int):=(List.range ss.length).map fun (k:Nat)=>if k<j then (cG ks (k:Int)).getD (ss.getD k []) else ss.getD k []
theorem ce (ss:List (List Int)) (ks:List (Int×List Int)):(db ss ks).length=ss.length:=by unfold db;simp
theorem dc (ss:List (List Int)) (ks:List (Int×List Int)) (j:Nat):(fI ss ks j).length=ss.length:=by unfold fI;simp
theorem hJ {ss:List (List Int)} {ks:List (Int×List Int)} {k:Nat} (h:k<ss.length):(db ss ks)[k]?=some ((cG ks (k:Int)).getD (ss.getD k [])):=by
 unfold db;rw [List.getElem?_map,List.getElem?_range h];rfl
theorem fB {ss:List (List Int)} {ks:List (Int×List Int)} {j k:Nat} (h:k<ss.length):(fI ss ks j)[k]?=some (if k<j then (cG ks (k:Int)).getD (ss.getD k []) else ss.getD k []):=by
 unfold fI;rw [List.getElem?_map,List.getElem?_range h];rfl
theorem dz {α:Type} {l m:List α} {n:Nat} (hl:l.length=n) (hm:m.length=n) (h:∀k,k<n->l[k]?=m[k]?):l=m:=by
 apply List.ext_getElem?
 intro k;by_cases hk:k<n
 . exact h k hk
 rw [List.getElem?_eq_none (by omega),List.getElem?_eq_none (by omega)]
theorem jJ {ss:List (List Int)} {k:Nat} (h:k<ss.length):ss[k]?=some (ss.getD k []):=by
 rw [List.getD_eq_getElem?_getD,List.getElem?_eq_getElem h];rfl
theorem qe (ss:List (List Int)):db ss []=ss:=by
 refine dz (ce _ _) rfl (fun k hk=>?_)
 rw [hJ hk,jJ hk];rfl
theorem qf (ss:List (List Int)) (ks:List (Int×List Int)):fI ss ks 0=ss:=by
 refine dz (dc _ _ _) rfl (fun k hk=>?_)
 rw [fB hk,jJ hk,if_neg (by omega)]
theorem nl {ss:List (List Int)} {ks:List (Int×List Int)} {j:Nat} (h:∀k:Nat,j<=k->k<ss.length->cG ks (k:Int)=none):fI ss ks j=db ss ks:=by
 refine dz (dc _ _ _) (ce _ _) (fun k hk=>?_)
 rw [fB hk,hJ hk];by_cases hj:k<j
 . rw [if_pos hj]
 rw [if_neg hj,h k (by omega) hk];rfl
theorem qg {ss:List (List Int)} {ks:List (Int×List Int)} {j:Nat} {zs:List Int} (hj:j<ss.length) (h:cG ks (j:Int)=some zs):fI ss ks (j+1)=(fI ss ks j).set j zs:=by
 refine dz (dc _ _ _) (by rw [List.length_set];exact dc _ _ _) (fun k hk=>?_)
 rw [fB hk];by_cases hkj:k=j
 . subst hkj
   rw [if_pos (by omega),h,List.getElem?_set_self (by rw [dc];exact hk)];rfl
 rw [List.getElem?_set_ne (fun e=>hkj e.symm),fB hk];by_cases hl:k<j
 . rw [if_pos hl,if_pos (by omega)]
 rw [if_neg hl,if_neg (by omega)]
theorem qh {ss:List (List Int)} {ks:List (Int×List Int)} {j:Nat} (h:cG ks (j:Int)=none):fI ss ks (j+1)=fI ss ks j:=by
 refine dz (dc _ _ _) (dc _ _ _) (fun k hk=>?_)
 rw [fB hk,fB hk];by_cases hkj:k=j
 . subst hkj
   rw [if_pos (by omega),if_neg (by omega),h];rfl
 by_cases hl:k<j
 . rw [if_pos hl,if_pos (by omega)]
 rw [if_neg hl,if_neg (by omega)]
theorem pg {ss:List (List Int)} {ks:List (Int×List Int)} {q:Nat} {zs:List Int} (hq:q<ss.length):db ss (ks++[((q:Int),zs)])=(db ss ks).set q zs:=by
 refine dz (ce _ _) (by rw [List.length_set];exact ce _ _) (fun k hk=>?_)
 rw [hJ hk,iY];by_cases hkq:k=q
 . subst hkq
   rw [if_pos rfl,List.getElem?_set_self (by rw [ce];exact hk)];rfl
 rw [if_neg (by simp;omega),List.getElem?_set_ne (fun e=>hkq e.symm),hJ hk]
theorem dA:∀(l:List Nat) (m:Nat),(∀x∈l,x<=m)->dw l<=m*l.length
 | [],m,_=>by simp [dw]
 | x :: l,m,h=>by
  have h1:=dA l m (fun y hy=>h y (List.mem_cons_of_mem _ hy));have h2:=h x List.mem_cons_self;have h3:dw (x :: l)=x+dw l:=by simp [dw]
  rw [h3,List.length_cons,Nat.mul_succ];omega
theorem jo {w:World} {v:Value} {zs:List Int} {f:List Nat} (h:aA.ow w [v] zs f):(v=.slice none 0 0/\zs=[]/\f=[])∨∃g cap,v=.slice (some ⟨g,0,none⟩) zs.length cap/\f=[g]/\Go.Proofs.YtejokiafgbjdaaaGreat.Own .i64 3 w g (g+1) v zs:=by
 rcases h with ⟨h1,h2,h3⟩|⟨b,cap,cur,fps,h1,h2,h3,h4,h5,h6,h7,h8⟩
 . exact .inl ⟨by simpa using h1,h2,h3⟩
 have hv:v=.slice (some ⟨b,0,none⟩) zs.length cap:=by simpa using h1
 have hfl:fps.flatten=[]:=by
  rw [List.flatten_eq_nil_iff];intro f' hf';obtain ⟨i,hi⟩:=List.mem_iff_getElem?.1 hf';have hil:i<zs.length:=by rw [←h7];exact (List.getElem?_eq_some_iff.1 hi).1
  obtain ⟨f2,hf2,_,h10⟩:=h8 i _ (List.getElem?_eq_getElem hil);rw [hi] at hf2;simp at hf2
  rw [hf2];exact h10
 have h5':cur.size=cap*1:=h5;refine .inr ⟨b,cap,hv,by rw [h6,hfl],⟨by simp,.inr ⟨b,cap,cur,hv,Nat.le_refl _,h4,h2,by unfold maxLen;exact h3,h5',?_⟩⟩,fun g hg=>by rw [hv] at hg;simp [Value.ownBlock] at hg;omega⟩
 apply List.ext_getElem?
 intro i;rw [List.getElem?_take,List.getElem?_map];by_cases hi:i<zs.length
 . obtain ⟨f2,_,h9,_⟩:=h8 i _ (List.getElem?_eq_getElem hi)
   have h9':(cur.toList.drop (i*1)).take 1=[.int .i64 zs[i]]:=h9;have:((cur.toList.drop (i*1)).take 1)[0]?=some (.int .i64 zs[i]):=by rw [h9'];rfl
   rw [List.getElem?_take,if_pos (by omega),List.getElem?_drop] at this;rw [if_pos (by omega),List.getElem?_eq_getElem hi];simpa using this
 rw [if_neg (by omega),List.getElem?_eq_none (by omega)];rfl
def cA (zs:List Int) (n:Int):List Int:=zs.filter fun x=>decide (x≠n)
theorem nn {zs:List Int} {n:Int} (h:∀x∈zs,x≠n):cA zs n=zs:=by
 unfold cA;rw [List.filter_eq_self];intro x hx;simp [h x hx]
theorem gK (zs:List Int) (x n:Int):cA (zs++[x]) n=if x=n then cA zs n else cA zs n++[x]:=by
 unfold cA;rw [List.filter_append];by_cases h:x=n<;>simp [h]
theorem kw (zs:List Int) (n:Int):(cA zs n).length<=zs.length:=List.length_filter_le _ _
theorem gf {w:World} {g n cap:Nat} {zs:List Int} (h:Own .i64 3 w g (g+1) (.slice (some ⟨g,0,none⟩) n cap) zs):aA.Own w g (g+1) [.slice (some ⟨g,0,none⟩) n cap] zs:=by
 obtain ⟨fp,m1,m2⟩:=iN h.1;exact m1.own (fun b hb=>by
  have:=(m2 b hb).1;simp [Value.ownBlock] at this
  omega)
theorem Own.zeros {g n cap:Nat}:∀(k i:Nat) (w:World) (L:List Int),Own .i64 3 w g (g+1) (.slice (some ⟨g,0,none⟩) n cap) L->i+k<=n->∃L',Own .i64 3 (w.setCells g i (List.replicate k (.int .i64 0))) g (g+1) (.slice (some ⟨g,0,none⟩) n cap) L'/\L'.take i=L.take i/\But g (g+1) w (w.setCells g i (List.replicate k (.int .i64 0)))
 | 0,i,w,L,h,_=>⟨L,h,rfl,But.refl _ _ _⟩
 | k+1,i,w,L,h,hk=>by
  obtain ⟨_,_,h1,h2⟩:=h.store i (by omega) 0;obtain ⟨L',h3,h4,h5⟩:=Own.zeros k (i+1) _ _ h1 (by omega);refine ⟨L',h3,?_,h2.trans h5⟩
  have:=congrArg (List.take i) h4;rw [List.take_take,List.take_take,Nat.min_eq_left (by omega)] at this;rw [this];apply List.ext_getElem?
  intro m;rw [List.getElem?_take,List.getElem?_take];by_cases hm:m<i
  . rw [if_pos hm,if_pos hm,List.getElem?_set_ne (by omega)]
  rw [if_neg hm,if_neg hm]
theorem Own.cut {w:World} {g n cap i:Nat} {L:List Int} (h:Own .i64 3 w g (g+1) (.slice (some ⟨g,0,none⟩) n cap) L) (hi:i<=n):Own .i64 3 w g (g+1) (.slice (some ⟨g,0,none⟩) i cap) (L.take i):=by
 have hl:=h.length;obtain ⟨h1,h2⟩:=h;refine ⟨⟨by simp,?_⟩,fun b hb=>by simp [Value.ownBlock] at hb;omega⟩
 rcases h1.2 with ⟨hv,_⟩|⟨g',cap',cur,hv,hb,hg,hnc,hcm,hcs,ht⟩
 . simp at hv
 simp only [Value.slice.injEq,Option.some.injEq,Addr.mk.injEq,and_true] at hv
 obtain ⟨rfl,hv2,rfl⟩:=hv;refine .inr ⟨g,cap,cur,by rw [List.length_take,Nat.min_eq_left (by omega)],hb,hg,by rw [List.length_take];omega,hcm,hcs,?_⟩
 rw [List.length_take,Nat.min_eq_left (by omega),List.map_take,←ht,List.take_take,hl];congr 1
 omega
theorem rj (w:World) (b n:Int) (B:Nat) (hc:w.cell? ⟨B,0,none⟩=some (.int .i64 n)):
 Calls Tryz.prog 254 #[.int .i64 b,.pointer (some ⟨B,0,none⟩)] w fun e w'=>e=.returned (.bool (decide (b=n)))/\aH w w':=by
 go_enter Tryz.func254,Tryz.ntmps254
 go_wp2
 go_ret
 exact ⟨ag (by by_cases h:b=n<;>simp [h]),aH.refl _⟩
theorem mN (w:World) (a:Option Addr) (len cap:Nat) (zs:List Int) (n:Int) (B:Nat) (hc:w.cell? ⟨B,0,none⟩=some (.int .i64 n)) (hz:zs.length=len) (hr:aF .i64 w a zs) (hlen:len<=2097152):
 Calls Tryz.prog 234 #[.slice a len cap,.func (Fn.func 254) #[] #[.pointer (some ⟨B,0,none⟩)]] w fun e w'=>((e=.returned (.int .i64 (-1))/\∀x∈zs,x≠n)∨∃j,j<len/\e=.returned (.int .i64 j)/\zs[j]?=some n/\∀x∈zs.take j,x≠n)/\aH w w':=by
 go_enter Tryz.func234,Tryz.ntmps234
 go_wp2
 go_loopw [8] (fun i wr=>∃j:Nat,j<=len/\i=.int .i64 j/\(∀x∈zs.take j,x≠n)/\aH w wr) (fun i _=>len-(intOf i).toNat)
 case atStart=>exact ⟨0,Nat.zero_le _,rfl,by simp,aH.refl _⟩
 obtain ⟨j,hj,rfl,ht,hs⟩:=hrel;by_cases hlt:j<len
 . rcases hr.cases with h0|⟨b,off,rfl,hbl,hcz⟩
   . omega
   have hc1:=(hs.cell _).trans (hcz j (by omega));have hx:zs[j]?=some (zs.getD j 0):=by rw [List.getD_eq_getElem?_getD,List.getElem?_eq_getElem (by omega)];rfl
   have htk:zs.take (j+1)=zs.take j++[zs.getD j 0]:=by rw [List.take_add_one,hx];rfl
   generalize zs.getD j 0=x at hc1 hx htk;have hcc:=(hs.cell ⟨B,0,none⟩).trans hc;have HT:=aa ht;have HTK:=aa htk;have HX:=aa hx;clear hcz ht htk hx;go_wp2_with fail
   refine (rj _ _ n B hcc).mono ?_
   rintro e w1 ⟨rfl,hs1⟩;by_cases hxn:x=n
   . subst hxn
     have hd:decide (x=x)=true:=by simp
     go_wp2
     go_ret
     exact ⟨.inr ⟨j,hlt,rfl,HX.out,HT.out⟩,hs.trans hs1⟩
   have hd:decide (x=n)=false:=by simp [hxn]
   go_wp2
   go_roundw
   case rel=>exact ⟨j+1,by omega,by go_num,by
    rw [HTK.out];intro y hy;rcases List.mem_append.1 hy with hy|hy
    . exact HT.out y hy
    simp at hy
    rw [hy];exact hxn,hs.trans hs1⟩
   case measure=>simp [intOf];omega
 go_wp2
 go_ret
 have e:j=len:=by omega
 subst e;rw [List.take_of_length_le (by omega)] at ht;exact ⟨.inl ⟨rfl,ht⟩,hs⟩
theorem lz (w:World) (lo hi:Nat) (a:Option Addr) (len cap:Nat) (zs:List Int) (n:Int) (B:Nat) (h:aA.Own w lo hi [.slice a len cap] zs) (hc:w.cell? ⟨B,0,none⟩=some (.int .i64 n)) (hB:B<lo∨hi<=B) (hlen:len<=2097152):
 Calls Tryz.prog 253 #[.slice a len cap,.func (Fn.func 254) #[] #[.pointer (some ⟨B,0,none⟩)]] w fun e w'=>∃a' c',e=.returned (.slice a' (cA zs n).length c')/\aA.Own w' lo hi [.slice a' (cA zs n).length c'] (cA zs n)/\But lo hi w w':=by
 obtain ⟨hr,hl,_,_⟩:=aO h.rd;go_enter Tryz.func253,Tryz.ntmps253
 go_wp2_with fail
 refine (mN _ _ _ _ zs n B hc hl hr hlen).mono ?_
 rintro e w1 ⟨hcase,hs1⟩;rcases hcase with ⟨rfl,hnone⟩|⟨i,hi1,rfl,hxi,hpre⟩
 . have HF:=aa (nn hnone)
   have H1:=aa (h.same hs1);have HB:=aa (But.of_below (lo:=lo) (hi:=hi) (hs1.below _));clear hnone;go_wp2
   go_ret
   exact ⟨a,cap,by rw [HF.out,hl];rfl,by rw [HF.out,hl];exact H1.out,HB.out⟩
 obtain ⟨g,hgl,hgh,rfl,ho⟩:∃g,lo<=g/\g<hi/\a=some ⟨g,0,none⟩/\Own .i64 3 w g (g+1) (.slice (some ⟨g,0,none⟩) len cap) zs:=by
  obtain ⟨fp,hm,hfr⟩:=h.mine;rcases jo hm.1 with ⟨hv,_,_⟩|⟨g,cap',hv,hf,ho⟩
  . simp at hv
    omega
  simp only [Value.slice.injEq] at hv
  obtain ⟨rfl,rfl,rfl⟩:=hv;have:=hfr g (by rw [hf];simp);exact ⟨g,this.1,this.2,rfl,ho⟩
 have hcap:len<=cap:=(ae h.rd).2.1;have hcm:cap<=9223372036854775807:=(ae h.rd).2.2;have hBs:B<w.heap.size:=by
  rcases Nat.lt_or_ge B w.heap.size with h'|h'
  . exact h'
  simp [World.cell?,Array.getElem?_eq_none h'] at hc
 have hBg:B≠g:=by omega
 have HST:Hid (zs.take i=cA (zs.take (i+1)) n):=by
  unfold Hid;rw [List.take_add_one,hxi];show _=cA (zs.take i++[n]) n
  rw [gK,if_pos rfl,nn hpre]
 have O1:=aa (ho.same hs1);have HB1:=aa (But.of_below (lo:=g) (hi:=g+1) (hs1.below _));clear hxi hpre ho hr;have hne:((i:Int)==-1)=false:=by simp
 have zr:∀w,(zeroValue 3).run Tryz.prog w=.ok (.int .i64 0) w:=fun w=>by kernel_rfl
 go_wp2
 go_loopw [5,6] (fun iv jv wr=>∃(j i:Nat) (L:List Int),j<=len/\jv=.int .i64 j/\iv=.int .i64 i/\i<j/\Own .i64 3 wr g (g+1) (.slice (some ⟨g,0,none⟩) len cap) L/\L.take i=cA (zs.take j) n/\L.drop j=zs.drop j/\But g (g+1) w wr) (fun _ jv _=>len-(intOf jv).toNat)
 case atStart=>exact ⟨i+1,i,zs,by omega,by go_num,rfl,by omega,O1.out,HST.out,rfl,HB1.out⟩
 obtain ⟨j,i,L,hj,rfl,rfl,hij,ho,ht,hd,hb⟩:=hrel;have hLl:=ho.length;by_cases hlt:j<len
 . have hx:zs[j]?=some (L.getD j 0):=by
    have h1:(L.drop j)[0]?=(zs.drop j)[0]?:=by rw [hd]
    rw [List.getElem?_drop,List.getElem?_drop,Nat.add_zero] at h1;rw [←h1,List.getD_eq_getElem?_getD,List.getElem?_eq_getElem (by omega)];rfl
   have htk:zs.take (j+1)=zs.take j++[L.getD j 0]:=by rw [List.take_add_one,hx];rfl
   have hcj:=(ho.store j hlt 0).1;have hdd:L.drop (j+1)=zs.drop (j+1):=by
    have:=congrArg (List.drop 1) hd;rw [List.drop_drop,List.drop_drop] at this;exact this
   have hLj:L[j]?=some (L.getD j 0):=by rw [List.getD_eq_getElem?_getD,List.getElem?_eq_getElem (by omega)];rfl
   generalize L.getD j 0=x at hx htk hcj hLj;have hcB:=(cM (hb.block B hBs (by omega)) 0).trans hc;obtain ⟨hci,hfi,hst,hbt⟩:=ho.store i (by omega) x;have hti:(L.set i x).take (i+1)=L.take i++[x]:=by
    rw [List.take_add_one,List.getElem?_set_self (by omega)];congr 1
    apply List.ext_getElem?
    intro m;rw [List.getElem?_take,List.getElem?_take];by_cases hm:m<i
    . rw [if_pos hm,if_pos hm,List.getElem?_set_ne (by omega)]
    rw [if_neg hm,if_neg hm]
   have hdi:(L.set i x).drop (j+1)=L.drop (j+1):=by
    apply List.ext_getElem?
    intro m;rw [List.getElem?_drop,List.getElem?_drop,List.getElem?_set_ne (by omega)]
   generalize L.getD i 0=y at hci;have HO:=aa ho;have HT:=aa ht;have HD:=aa hdd;have HTK:=aa htk;have HST2:=aa hst;have HBT:=aa hbt;have HTI:=aa hti;have HDI:=aa hdi;have HB:=aa hb;clear ho ht hd hdd htk hst hbt hti hdi hb hx hLj;go_wp2_with fail
   refine (rj _ _ n B hcB).mono ?_
   rintro e w2 ⟨rfl,hs2⟩;have hci2:=(hs2.cell _).trans hci;have hfi2:w2.frozen? ⟨g,i,none⟩=false:=by rw [←hfi];exact World.frozen?_of_block (by rw [hs2.heap])
   by_cases hxn:x=n
   . subst hxn
     have hdc:decide (x=x)=true:=by simp
     go_wp2
     go_roundw
     case rel=>exact ⟨j+1,i,L,by omega,by go_num,rfl,by omega,HO.out.same hs2,by rw [HTK.out,gK,if_pos rfl];exact HT.out,HD.out,HB.out.trans (But.of_below (hs2.below _))⟩
     case measure=>simp [intOf];omega
   have hdc:decide (x=n)=false:=by simp [hxn]
   have OS:=aa ((HO.out.same hs2).store i (by omega) x);go_wp2
   go_roundw
   case rel=>exact ⟨j+1,i+1,L.set i x,by omega,by go_num,by go_num,by omega,OS.out.2.2.1,by rw [HTI.out,HTK.out,gK,if_neg hxn,HT.out],by rw [HDI.out];exact HD.out,(HB.out.trans (But.of_below (hs2.below _))).trans OS.out.2.2.2⟩
   case measure=>simp [intOf];omega
 have e:len=j:=by omega
 subst e;rw [List.take_of_length_le (l:=zs) (by omega)] at ht;have hil:i=(cA zs n).length:=by rw [←ht,List.length_take];omega
 have hclr:∀ty,(Builtin.clear_ #[52] ty #[.slice (some ⟨g,i,none⟩) (len-i) (cap-i)]).run Tryz.prog wr=.ok (.tuple #[]) (wr.setCells g i (List.replicate (len-i) (.int .i64 0))):=fun ty=>
  Go.Lib.run_clear_slice wr 52 3 ty (.int .i64 0) Tryz.underlying52 zr rfl rfl g i (len-i) (cap-i) (by omega) (fun m hm=>by rw [(ho.store (i+m) (by omega) 0).1];rfl) (fun m hm=>(ho.store (i+m) (by omega) 0).2.1)
 obtain ⟨L',o1,t1,b1⟩:=Own.zeros (len-i) i wr L ho (by omega);have o2:=o1.cut (i:=i) (by omega);rw [t1,ht] at o2;have HF:=aa ((gf o2).widen (lo':=lo) (hi':=hi) (by omega) (by omega));have HBF:=aa (hb.trans b1);have HIL:=aa hil;have k1:(0:Int)<=(i:Int):=by omega
 have k2:(i:Int)<=(len:Int):=by omega
 have k3:(len:Int)<=(cap:Int):=by omega
 clear o1 o2 t1 b1 ho ht hd hb hil;go_wp2
 go_ret
 exact ⟨some ⟨g,0,none⟩,cap,by rw [←HIL.out];rfl,by rw [←HIL.out];exact HF.out,⟨HBF.out.os,HBF.out.tape,HBF.out.output,HBF.out.size,fun k hk ho=>HBF.out.block k hk (by omega)⟩⟩
theorem mO (w:World) (a:Option Addr) (len cap:Nat) (zs:List Int) (n:Int) (h:aA.Rd w [.slice a len cap] zs) (hlen:len<=2097152):
 Calls Tryz.prog 238 #[.slice a len cap,.int .i64 n] w fun e w'=>∃v,e=.returned v/\aA.Own w' w.heap.size w'.heap.size [v] (cA zs n)/\Below w.heap.size w w':=by
 obtain ⟨hr,hl,_,_⟩:=aO h;obtain ⟨i3,hi3,hx0,hx1,hx2⟩:=info_parts Tryz.info3;go_enter Tryz.func238,Tryz.ntmps238
 go_wp2
 go_loopw [5,6] (fun v i wr=>∃(j:Nat) (fp:List Nat),j<=len/\i=.int .i64 j/\aA.Mine wr [v] (cA (zs.take j) n) fp/\(∀b∈fp,w.heap.size<=b)/\Below w.heap.size w wr) (fun _ i _=>len-(intOf i).toNat)
 case atStart=>exact ⟨0,[w.heap.size],Nat.zero_le _,rfl,eh _,by simp,(Below.refl _ _).alloc (Nat.le_refl _) _⟩
 obtain ⟨j,fp,hj,rfl,hm,hfp,hb⟩:=hrel;have hs:=hb.size;by_cases hlt:j<len
 . rcases hr.cases with h0|⟨b,off,rfl,hbl,hcz⟩
   . omega
   have hc1:=(hb.cell (p:=⟨b,off+j,none⟩) hbl).trans (hcz j (by omega));have htk:zs.take (j+1)=zs.take j++[zs.getD j 0]:=by rw [List.take_add_one,List.getD_eq_getElem?_getD,List.getElem?_eq_getElem (by omega)];rfl
   generalize zs.getD j 0=x at hc1 htk;have k1:(0:Int)<=(j:Int):=by omega
   have k2:(j:Int)<(len:Int):=by omega
   have HTK:=aa htk;clear hcz htk;by_cases hxn:x=n
   . have HF:Hid (cA (zs.take (j+1)) n=cA (zs.take j) n):=by unfold Hid;rw [HTK.out,gK,if_pos hxn]
     subst hxn;go_wp2
     go_roundw
     case rel=>exact ⟨j+1,fp,by omega,by go_num,by rw [HF.out];exact hm,hfp,hb⟩
     case measure=>simp [intOf];omega
   have HF:Hid (cA (zs.take (j+1)) n=cA (zs.take j) n++[x]):=by unfold Hid;rw [HTK.out,gK,if_neg hxn]
   have MA:=aa (hm.alloc (.cells #[.int .i64 x] 3));have LI:Hid (eo.Mine (wr.alloc (.cells #[.int .i64 x] 3)) [.int .i64 x] x []):=⟨⟨rfl,rfl⟩,by simp⟩;have NN:=aa (aZ wr #[.int .i64 x] 3);have BA:=aa (hb.alloc hs (.cells #[.int .i64 x] 3));have ZA:Hid ((wr.alloc (.cells #[.int .i64 x] 3)).heap.size=wr.heap.size+1):=by unfold Hid;simp
   have hkl:=kw (zs.take j) n;rw [List.length_take] at hkl;have L1:Hid ((cA (zs.take j) n).length+1<=maxLen):=by unfold Hid maxLen;omega
   have L2:Hid (((cA (zs.take j) n).length+1)*8<=140737488355328):=by unfold Hid;omega
   have HFP:=aa hfp;clear hm hfp hb hkl;go_wp2_with (at_builtin;refine bO eo rfl (.tmp 20) (.tmp 25) 52 rfl 3 i3 (.int .i64 0) 8 Tryz.underlying52 hi3 hx0 hx1 hx2 rfl Nat.zero_lt_one u5 (cA (zs.take j) n) fp rfl ?_ ⟨wr.heap.size,0,none⟩ 1 [.int .i64 x] x [] rfl ?_ ?_ ?_ ?_ ?_ ?_ ?_;exact MA.out;exact LI.out;simp;exact NN.out;(intro u hu;simp at hu;rw [hu];rfl);exact L1.out;exact L2.out;intro v2 w2 fp2 m1 m2 m3;rw [←HF.out] at m1;have M1:=aa m1;have M2:=aa m2;have M3:=aa m3;clear m1 m2 m3)
   have hf2:∀b∈fp2,w.heap.size<=b:=fun b hb=>by
    rcases M2.out b hb with h|h|h
    . exact HFP.out b h
    . simp at h
    have h1:=h.1;have h2:=ZA.out;omega
   have HB:=aa (BA.out.trans (M3.out.below (N:=w.heap.size) (by have:=ZA.out;omega) (fun b hb=>HFP.out b hb)));have HF2:=aa hf2;clear hf2;go_roundw
   case rel=>exact ⟨j+1,fp2,by omega,by go_num,M1.out,HF2.out,HB.out⟩
   case measure=>simp [intOf];omega
 have e:j=len:=by omega
 subst e;rw [List.take_of_length_le (by omega)] at hm;have hltb:=hm.lt;have HO:=aa (hm.own (lo:=w.heap.size) (hi:=wr.heap.size) (fun b hb'=>⟨hfp b hb',hltb b hb'⟩));go_wp2
 go_ret
 exact ⟨_,rfl,HO.out,hb⟩
end Go.Proofs.YtejokiafgbjdaaaGreat

namespace Go.Proofs.YtejokiafgbjdaaaGreat
open Go.RowKit Go.Shelf
def gp:Go.Shelf.Ren:=⟨fun|21=>143|27=>195|28=>196|35=>233|39=>252|n=>n,fun|0=>0|3=>3|4=>4|22=>52|n=>n,fun n=>n⟩
theorem jC:Lays2.n21 Tryz.prog gp where
 mixed:=by kernel_rfl
 f21:=Tryz.func143.trans (congrArg some (by kernel_rfl))
 f27:=Tryz.func195.trans (congrArg some (by kernel_rfl))
 f28:=Tryz.func196.trans (congrArg some (by kernel_rfl))
 f35:=Tryz.func233.trans (congrArg some (by kernel_rfl))
 f39:=Tryz.func252.trans (congrArg some (by kernel_rfl))
 t0:=Tryz.underlying0
 a0:=Tryz.isAgg0
 z0:=Tryz.sizeOf0
 v0:=Tryz.zeroValue0
 t3:=Tryz.underlying3
 a3:=Tryz.isAgg3
 z3:=Tryz.sizeOf3
 v3:=Tryz.zeroValue3
 t4:=Tryz.underlying4
 a4:=Tryz.isAgg4
 z4:=Tryz.sizeOf4
 v4:=Tryz.zeroValue4
 t22:=Tryz.underlying52
 a22:=Tryz.isAgg52
 z22:=Tryz.sizeOf52
 v22:=Tryz.zeroValue52
 i3:=by kernel_rfl
end Go.Proofs.YtejokiafgbjdaaaGreat

