/-
 The laws' helpers over a disk by what it reads as: equal, marked, held. Condition: it weighs at most 2097152.
-/
import Derived.Test.YtgjomldcnjjpaaaGreatRowArrsSq2
import Derived.Maps.AppendAt

set_option maxRecDepth 100000
set_option maxHeartbeats 8000000
set_option linter.unusedSimpArgs false

namespace Go.Proofs.YtgjomldcnjjpaaaGreat
open Go.RowKit

theorem pN {t:Ty} {E:TypeId} {w:World} {lo:Nat} {v:Value} {d:List t.D} {fp:List Nat} (h:(ce t E).Mine w [v] d fp) (hlo:∀b∈fp,lo<=b):
 ∃xs,w.ownsRow lo E t.n v d.length xs/\∀w' v' vs x f,t.Mine w vs x f->(∀b∈fp,b∉f)->w'.ownsRow lo E t.n v' (d.length+1) (xs++vs)->w.grownBy w' v.ownBlock->(v'.ownBlock=v.ownBlock∨v'.ownBlock=some w.heap.size) ->
  ∃fp',(ce t E).Mine w' [v'] (d++[x]) fp'/\(∀b∈fp',b∈fp∨b∈f∨(b=w.heap.size/\b<w'.heap.size))/\aA fp w w':=by
 obtain ⟨h,hn⟩:=h;rcases h with ⟨h1,rfl,rfl⟩|⟨b,cap,cur,fps,h1,h2,h3,h4,h5,rfl,h7,h8⟩
 . simp at h1
   subst h1;refine ⟨[],World.ownsRow_nil _ _ _ _,fun w' v' vs x f hx _ ho hg hat=>?_⟩
   rcases ho.2 with ⟨_,h0⟩|⟨g,cap',cur',hv,hb,hg',hnc,hcm,hcs,htake⟩
   . simp at h0
   have hgs:g=w.heap.size:=by
    rw [hv] at hat;simpa [Value.ownBlock] using hat
   have hgl:g<w'.heap.size:=(Array.getElem?_eq_some_iff.1 hg').1;subst hv;have hfl:[f].flatten=f:=by simp
   have hxlt:=hx.lt;refine ⟨g :: [f].flatten,⟨.inr ⟨g,cap',cur',[f],rfl,hnc,hcm,hg',hcs,rfl,rfl,fun i y hy=>?_⟩,?_⟩,?_,hg.os,hg.tape,hg.output,hg.size,fun k hk _=>hg.block k hk (by simp [Value.ownBlock])⟩
   . match i,hy with
     | 0,hy=>
      simp at hy
      subst hy;refine ⟨f,rfl,?_⟩
      rw [Nat.zero_mul,List.drop_zero];simp only [List.length_nil,Nat.zero_add,Nat.one_mul,List.nil_append] at htake
      rw [htake];exact t.owKept hx.1 (fun b hb=>hg.block b (hxlt b hb) (by simp [Value.ownBlock])) hg.size
   . rw [hfl,List.nodup_cons]
     refine ⟨fun hm=>?_,hx.2⟩
     have:=hxlt g hm;omega
   intro b hb;rw [hfl] at hb;rcases List.mem_cons.1 hb with rfl|hb
   . exact .inr (.inr ⟨hgs,hgl⟩)
   exact .inr (.inl hb)
 have hv:v=.slice (some ⟨b,0,none⟩) d.length cap:=by simpa using h1
 have hbl:b<w.heap.size:=(Array.getElem?_eq_some_iff.1 h4).1;have hle:d.length*t.n<=cap*t.n:=Nat.mul_le_mul_right _ h2;have hxl:(cur.toList.take (d.length*t.n)).length=d.length*t.n:=by
  have hcl:cur.toList.length=cap*t.n:=by rw [Array.length_toList];exact h5
  rw [List.length_take,hcl];omega
 refine ⟨cur.toList.take (d.length*t.n),⟨hxl,.inr ⟨b,cap,cur,hv,hlo b List.mem_cons_self,h4,h2,h3,h5,rfl⟩⟩,fun w' v' vs x f hx hdis ho hg hat=>?_⟩
 rw [List.nodup_cons] at hn;obtain ⟨hbf,hnf⟩:=hn;have hfplt:∀c∈fps.flatten,c<w.heap.size:=by
  intro c hc;obtain ⟨f',hf',hcf⟩:=List.mem_flatten.1 hc;obtain ⟨i,hi⟩:=List.mem_iff_getElem?.1 hf';have hil:i<d.length:=by rw [←h7];exact (List.getElem?_eq_some_iff.1 hi).1
  obtain ⟨f2,hf2,ho2⟩:=h8 i _ (List.getElem?_eq_getElem hil);rw [hi] at hf2;simp at hf2
  subst hf2;exact t.rdLt (t.owRd ho2) c hcf
 have hxlt:=hx.lt;have hbx:b∉f:=hdis b List.mem_cons_self;have hvl:=t.rdLen (t.owRd hx.1);have hkeep:∀c,c<w.heap.size->c≠b->w'.heap[c]?=w.heap[c]?:=fun c hc hne=>hg.block c hc (by rw [hv];simpa [Value.ownBlock] using hne);rcases ho.2 with ⟨_,h0⟩|⟨g,cap',cur',hv',hb,hg',hnc,hcm,hcs,htake⟩
 . omega
 have hgs:g=b∨g=w.heap.size:=by
  rw [hv',hv] at hat;simpa [Value.ownBlock] using hat
 have hgl:g<w'.heap.size:=(Array.getElem?_eq_some_iff.1 hg').1;subst hv';have hfl:(fps++[f]).flatten=fps.flatten++f:=by simp
 have hseg:∀i,i<d.length->(cur'.toList.drop (i*t.n)).take t.n=(cur.toList.drop (i*t.n)).take t.n:=by
  intro i hi;have hmul:(i+1)*t.n<=d.length*t.n:=Nat.mul_le_mul_right _ hi;rw [Nat.add_mul,Nat.one_mul] at hmul;apply List.ext_getElem?
  intro k;rw [List.getElem?_take,List.getElem?_take];by_cases hk:k<t.n
  . rw [if_pos hk,if_pos hk,List.getElem?_drop,List.getElem?_drop]
    have:=congrArg (fun l=>l[i*t.n+k]?) htake;simp only [List.getElem?_take] at this
    rw [if_pos (by rw [Nat.add_mul,Nat.one_mul];omega),List.getElem?_append_left (by rw [hxl];omega),List.getElem?_take,if_pos (by omega)] at this;exact this
  rw [if_neg hk,if_neg hk]
 have hlast:(cur'.toList.drop (d.length*t.n)).take t.n=vs:=by
  apply List.ext_getElem?
  intro k;rw [List.getElem?_take];by_cases hk:k<t.n
  . rw [if_pos hk,List.getElem?_drop]
    have:=congrArg (fun l=>l[d.length*t.n+k]?) htake;simp only [List.getElem?_take] at this
    rw [if_pos (by rw [Nat.add_mul,Nat.one_mul];omega),List.getElem?_append_right (by rw [hxl];omega),hxl,Nat.add_sub_cancel_left] at this;exact this
  rw [if_neg hk,List.getElem?_eq_none (by omega)]
 refine ⟨g :: (fps++[f]).flatten,⟨.inr ⟨g,cap',cur',fps++[f],by simp,by simpa using hnc,hcm,hg',hcs,rfl,by simp [h7],fun i y hy=>?_⟩,?_⟩,?_,hg.os,hg.tape,hg.output,hg.size,fun k hk hf=>hkeep k hk (fun e=>hf (by rw [e];exact List.mem_cons_self))⟩
 . by_cases hi:i<d.length
   . rw [List.getElem?_append_left hi] at hy
     obtain ⟨f2,hf2,ho2⟩:=h8 i y hy;refine ⟨f2,by rw [List.getElem?_append_left (by omega)];exact hf2,?_⟩
     rw [hseg i hi];refine t.owKept ho2 (fun c hc=>hkeep c (t.rdLt (t.owRd ho2) c hc) (fun e=>hbf ?_)) hg.size
     rw [←e];exact List.mem_flatten.2 ⟨f2,List.mem_of_getElem? hf2,hc⟩
   have hil:i=d.length:=by
    have:=(List.getElem?_eq_some_iff.1 hy).1;simp at this
    omega
   subst hil;rw [List.getElem?_append_right (Nat.le_refl _),Nat.sub_self] at hy;simp at hy
   subst hy;refine ⟨f,by rw [List.getElem?_append_right (by omega),h7,Nat.sub_self];rfl,?_⟩
   rw [hlast];exact t.owKept hx.1 (fun c hc=>hkeep c (hxlt c hc) (fun e=>hbx (e▸hc))) hg.size
 . rw [hfl,List.nodup_cons]
   refine ⟨fun hm=>?_,?_⟩
   . rcases List.mem_append.1 hm with hm|hm
     . rcases hgs with rfl|rfl
       . exact hbf hm
       have:=hfplt _ hm;omega
     rcases hgs with rfl|rfl
     . exact hbx hm
     have:=hxlt _ hm;omega
   rw [List.nodup_append];exact ⟨hnf,hx.2,fun a ha c hc e=>hdis a (List.mem_cons_of_mem _ ha) (e▸hc)⟩
 intro c hc;rw [hfl] at hc;rcases List.mem_cons.1 hc with rfl|hc
 . rcases hgs with rfl|hgs
   . exact .inl List.mem_cons_self
   exact .inr (.inr ⟨hgs,hgl⟩)
 rcases List.mem_append.1 hc with hc|hc
 . exact .inl (List.mem_cons_of_mem _ hc)
 exact .inr (.inl hc)
theorem cO {P:Program} {w:World} {ops:Array Oper} {rest:List Oper} {o:Oper} {a:Act} {Q:Exit->Act->World->Prop} (t:Ty) (hgd:o.guard=none) (s x:Operand) (T:TypeId)
 (ho:o.op=.call { callee:=.builtin .append,args:=#[s,x],argTypes:=#[T,T] })
 (E:TypeId) (i:TypeInfo) (z:Value) (bytes:Nat) (ht:P.underlying T=some (.slice E)) (hi:P.info? E=some i) (hz:i.zero=some z)
 (hsize:i.size=t.n) (hby:i.bytes=bytes) (hzs:z.cells.size=t.n) (hsz:0<t.n)
 (v:Value) (d:List t.D) (fp:List Nat) (hs:a.eval s=v) (hown:(ce t E).Mine w [v] d fp)
 (ad:Addr) (c:Nat) (vs:List Value) (y:t.D) (f:List Nat) (hx:a.eval x=.slice (some ad) 1 c) (hy:t.Mine w vs y f) (hdis:∀b∈fp,b∉f) (hr:∀j u,vs[j]?=some u->w.cell? (ad.add j)=some u) (h1:∀u∈vs,u.oneCell'=true)
 (h63:d.length+1<=maxLen) (hbytes:(d.length+1)*bytes<=140737488355328)
 (h:∀v' w' fp',(ce t E).Mine w' [v'] (d++[y]) fp'->(∀b∈fp',b∈fp∨b∈f∨(b=w.heap.size/\b<w'.heap.size))->aA fp w w'->wpList P ops Q rest (a.put o.dst v') w'):wpList P ops Q (o :: rest) a w:=by
 obtain ⟨xs,hrow,hback⟩:=pN (lo:=0) hown (fun _ _=>Nat.zero_le _);have hvl:=t.rdLen (t.owRd hy.1);refine wpList_append_own_at w hgd s x T ho 0 E i z t.n bytes ht hi hz hsize hby hzs hsz v d.length xs hs hrow ad 1 c vs hx (by omega) hr h1 h63 hbytes (Nat.zero_le _) ?_
 intro v' w' k1 k2 _ k4;obtain ⟨fp',m1,m2,m3⟩:=hback w' v' vs y f hy hdis k1 k2 k4;exact h v' w' fp' m1 m2 m3
theorem cS {P:Program} {w:World} {ops:Array Oper} {o:Oper} {a:Act} {K:Act->World->Prop} {Q:Exit->Act->World->Prop} {G:Prop} (t:Ty) (hgd:o.guard=none) (s x:Operand) (T:TypeId)
 (ho:o.op=.call { callee:=.builtin .append,args:=#[s,x],argTypes:=#[T,T] })
 (E:TypeId) (i:TypeInfo) (z:Value) (bytes:Nat) (ht:P.underlying T=some (.slice E)) (hi:P.info? E=some i) (hz:i.zero=some z)
 (hsize:i.size=t.n) (hby:i.bytes=bytes) (hzs:z.cells.size=t.n) (hsz:0<t.n)
 (v:Value) (d:List t.D) (fp:List Nat) (hs:a.eval s=v) (hown:(ce t E).Mine w [v] d fp)
 (ad:Addr) (c:Nat) (vs:List Value) (y:t.D) (f:List Nat) (hx:a.eval x=.slice (some ad) 1 c) (hy:t.Mine w vs y f) (hdis:∀b∈fp,b∉f) (hr:∀j u,vs[j]?=some u->w.cell? (ad.add j)=some u) (h1:∀u∈vs,u.oneCell'=true)
 (h63:d.length+1<=maxLen) (hbytes:(d.length+1)*bytes<=140737488355328)
 (h:∀g cap w' fp',(ce t E).Mine w' [.slice (some ⟨g,0,none⟩) (d.length+1) cap] (d++[y]) fp'->(∀b∈fp',b∈fp∨b∈f∨(b=w.heap.size/\b<w'.heap.size))->aA fp w w'->K (a.put o.dst (.slice (some ⟨g,0,none⟩) (d.length+1) cap)) w'):
 if Region.wanted o (yielded ops a.tmps)=true then Oper.wp P o a w K Q else G:=by
 obtain ⟨xs,hrow,hback⟩:=pN (lo:=0) hown (fun _ _=>Nat.zero_le _);have hvl:=t.rdLen (t.owRd hy.1);refine step_append_lies w hgd s x T ho 0 E i z t.n bytes ht hi hz hsize hby hzs hsz v d.length xs hs hrow ad 1 c vs hx (by omega) hr h1 Nat.zero_lt_one h63 hbytes (Nat.zero_le _) w.heap.size rfl ?_
 intro g cap w' k1 k2 k3 _;obtain ⟨fp',m1,m2,m3⟩:=hback w' _ vs y f hy hdis k1 k2 (by
  rcases k3 with k3|k3
  . exact .inl k3.symm
  exact .inr (by rw [k3];rfl))
 exact h g cap w' fp' m1 m2 m3
def Box (w:World) (B:Nat) (T:TypeId) (cs:Array Value):Prop:=w.heap[B]?=some (.cells cs T (0,0))
theorem Box.cell {w:World} {B:Nat} {T:TypeId} {cs:Array Value} (h:Box w B T cs) (j:Nat):w.cell? ⟨B,j,none⟩=cs[j]?:=cell_of_row w B j cs T (0,0) h
theorem Box.cells4 {w:World} {B:Nat} {T:TypeId} {v0 v1 v2 v3:Value} (h:Box w B T #[v0,v1,v2,v3]):w.cell? ⟨B,0,none⟩=some v0/\w.cell? ⟨B,1,none⟩=some v1/\w.cell? ⟨B,2,none⟩=some v2/\w.cell? ⟨B,3,none⟩=some v3:=
 ⟨h.cell 0,h.cell 1,h.cell 2,h.cell 3⟩
theorem Box.cells2 {w:World} {B:Nat} {T:TypeId} {v0 v1:Value} (h:Box w B T #[v0,v1]):w.cell? ⟨B,0,none⟩=some v0/\w.cell? ⟨B,1,none⟩=some v1:=⟨h.cell 0,h.cell 1⟩
theorem Box.frozen {w:World} {B:Nat} {T:TypeId} {cs:Array Value} (h:Box w B T cs) (j:Nat):w.frozen? ⟨B,j,none⟩=false:=frozen_of_row w B j cs T h
theorem Box.lt {w:World} {B:Nat} {T:TypeId} {cs:Array Value} (h:Box w B T cs):B<w.heap.size:=(Array.getElem?_eq_some_iff.1 h).1
theorem Box.kept {w w':World} {B:Nat} {T:TypeId} {cs:Array Value} (h:Box w B T cs) (hk:w'.heap[B]?=w.heap[B]?):Box w' B T cs:=hk.trans h
theorem Box.below {w w':World} {B N:Nat} {T:TypeId} {cs:Array Value} (h:Box w B T cs) (hb:Below N w w') (hN:B<N):Box w' B T cs:=h.kept (hb.block B hN)
theorem Box.turned {w w':World} {B:Nat} {T:TypeId} {cs:Array Value} {fp:List Nat} (h:Box w B T cs) (ht:aA fp w w') (hB:B∉fp):Box w' B T cs:=h.kept (ht.block B h.lt hB)
theorem Box.same {w w':World} {B:Nat} {T:TypeId} {cs:Array Value} (h:Box w B T cs) (hs:aP w w'):Box w' B T cs:=h.kept (by rw [hs.heap])
theorem Box.set {w:World} {B:Nat} {T:TypeId} {cs:Array Value} (h:Box w B T cs) (j:Nat) (v:Value):Box (w.setCell ⟨B,j,none⟩ v) B T (cs.setIfInBounds j v):=heap_setCell_same w B j cs T v h
theorem Box.other {w:World} {B g:Nat} {T:TypeId} {cs:Array Value} (h:Box w B T cs) (hne:B≠g) (j:Nat) (v:Value):Box (w.setCell ⟨g,j,none⟩ v) B T cs:=h.kept (Below.heap_setCell _ _ _ _ hne)
theorem Box.alloc {w:World} {B:Nat} {T:TypeId} {cs:Array Value} (h:Box w B T cs) (o:Obj):Box (w.alloc o) B T cs:=h.kept (((Below.refl (B+1) w).alloc h.lt o).block B (Nat.lt_succ_self _))
theorem Box.new (w:World) (T:TypeId) (cs:Array Value):Box (w.alloc (.cells cs T)) w.heap.size T cs:=heap_alloc_new w _
theorem aA.alloc {fp:List Nat} {w w':World} (h:aA fp w w') (o:Obj):aA fp w (w'.alloc o):=
 ⟨h.os,h.tape,h.output,Nat.le_trans h.size (by simp),fun k hk hf=>(((Below.refl (k+1) w').alloc (Nat.lt_of_lt_of_le hk h.size) o).block k (Nat.lt_succ_self _)).trans (h.block k hk hf)⟩
theorem aA.below {fp:List Nat} {w w':World} {N:Nat} (h:aA fp w w') (hN:N<=w.heap.size) (hf:∀b∈fp,N<=b):Below N w w':=
 ⟨h.os,h.tape,h.output,h.size,fun k hk=>h.block k (by omega) (fun hm=>by have:=hf k hm;omega)⟩
theorem aA.ofBelow {w w':World} (h:Below w.heap.size w w') (fp:List Nat):aA fp w w':=⟨h.os,h.tape,h.output,h.size,fun k hk _=>h.block k hk⟩
theorem Ty.Mine.below {t:Ty} {w w':World} {vs:List Value} {d:t.D} {fp:List Nat} (h:t.Mine w vs d fp) (hb:Below w.heap.size w w'):t.Mine w' vs d fp:=h.kept (aA.ofBelow hb []) (by simp)
theorem Ty.Mine.alloc {t:Ty} {w:World} {vs:List Value} {d:t.D} {fp:List Nat} (h:t.Mine w vs d fp) (o:Obj):t.Mine (w.alloc o) vs d fp:=h.kept ((aA.refl [] w).alloc o) (by simp)
theorem Ty.Mine.setCell {t:Ty} {w:World} {vs:List Value} {d:t.D} {fp:List Nat} {g j:Nat} (h:t.Mine w vs d fp) (hg:g∉fp) (v:Value):t.Mine (w.setCell ⟨g,j,none⟩ v) vs d fp:=
 h.kept (aA.setCell (fp:=[g]) v (by simp)) (fun b hb hb'=>hg (by simp at hb';exact hb'▸hb))
theorem Ty.Rd.turned {t:Ty} {w w':World} {vs:List Value} {d:t.D} {fp fq:List Nat} (h:t.rd w vs d fp) (ht:aA fq w w') (hd:∀b∈fp,b∉fq):t.rd w' vs d fp:=t.rdKept h (fun b hb=>ht.block b (t.rdLt h b hb) (hd b hb)) ht.size
theorem cP {t:Ty} {E:TypeId} (w:World):(ce t E).Mine w [.slice none 0 0] [] []:=⟨.inl ⟨rfl,rfl,rfl⟩,by simp⟩
theorem ig {t:Ty} {E:TypeId} (w:World):(ce t E).Mine (w.alloc (.cells #[] E)) [.slice (some ⟨w.heap.size,0,none⟩) 0 0] [] [w.heap.size]:=
 ⟨.inr ⟨w.heap.size,0,#[],[],rfl,Nat.le_refl _,by omega,heap_alloc_new w _,by simp,rfl,rfl,fun i x hx=>by simp at hx⟩,by simp⟩
theorem bN (w:World) (cs:Array Value) (T:TypeId):∀j u,cs.toList[j]?=some u->(w.alloc (.cells cs T)).cell? ((⟨w.heap.size,0,none⟩:Addr).add j)=some u:=World.news_of_block (heap_alloc_new w _)
structure Fr (N B:Nat) (w w':World):Prop where
 os:w'.os=w.os
 tape:w'.tape=w.tape
 output:w'.output=w.output
 size:w.heap.size<=w'.heap.size
 block:∀k,k<N->k≠B->w'.heap[k]?=w.heap[k]?
theorem Fr.refl (N B:Nat) (w:World):Fr N B w w:=⟨rfl,rfl,rfl,Nat.le_refl _,fun _ _ _=>rfl⟩
theorem Fr.trans {N B:Nat} {a b c:World} (h:Fr N B a b) (k:Fr N B b c):Fr N B a c:=
 ⟨k.os.trans h.os,k.tape.trans h.tape,k.output.trans h.output,Nat.le_trans h.size k.size,fun i hi ho=>(k.block i hi ho).trans (h.block i hi ho)⟩
theorem Fr.box {N B C:Nat} {w w':World} {T:TypeId} {cs:Array Value} (h:Fr N B w w') (x:Box w C T cs) (hC:C<N) (hne:C≠B):Box w' C T cs:=x.kept (h.block C hC hne)
theorem Fr.below {N B M:Nat} {w w':World} (h:Fr N B w w') (h1:M<=N) (h2:M<=B):Below M w w':=⟨h.os,h.tape,h.output,h.size,fun k hk=>h.block k (by omega) (by omega)⟩
theorem Fr.own {t:Ty} {N B lo hi:Nat} {w w':World} {vs:List Value} {d:t.D} (h:Fr N B w w') (o:t.Own w lo hi vs d) (h1:hi<=N) (h2:hi<=B∨B<lo):t.Own w' lo hi vs d:=by
 obtain ⟨fp,k1,k2,k3⟩:=o;exact ⟨fp,t.owKept k1 (fun b hb=>h.block b (by have:=k3 b hb;omega) (by have:=k3 b hb;omega)) h.size,k2,k3⟩
theorem Fr.ofBelow {N B:Nat} {w w':World} (h:Below w.heap.size w w') (hN:N<=w.heap.size):Fr N B w w':=⟨h.os,h.tape,h.output,h.size,fun k hk _=>h.block k (by omega)⟩
theorem Fr.ofTurned {N B:Nat} {w w':World} {fp:List Nat} (h:aA fp w w') (hN:N<=w.heap.size) (hf:∀b∈fp,N<=b):Fr N B w w':=
 ⟨h.os,h.tape,h.output,h.size,fun k hk _=>h.block k (by omega) (fun hm=>by have:=hf k hm;omega)⟩
theorem Fr.ofSet {N B:Nat} (w:World) (j:Nat) (v:Value):Fr N B w (w.setCell ⟨B,j,none⟩ v):=⟨rfl,rfl,rfl,by simp [World.setCell],fun k _ hk=>Below.heap_setCell _ _ _ _ (by simpa using hk)⟩
theorem Fr.mine {t:Ty} {N B:Nat} {w w':World} {vs:List Value} {d:t.D} {fp:List Nat} (h:Fr N B w w') (o:t.Mine w vs d fp) (h1:∀b∈fp,b<N/\b≠B):t.Mine w' vs d fp:=⟨t.owKept o.1 (fun b hb=>h.block b (h1 b hb).1 (h1 b hb).2) h.size,o.2⟩
theorem Ty.Mine.but {t:Ty} {w w':World} {lo hi:Nat} {vs:List Value} {d:t.D} {fp:List Nat} (h:t.Mine w vs d fp) (hb:But lo hi w w') (hd:∀b∈fp,b<lo∨hi<=b):t.Mine w' vs d fp:=⟨t.owKept h.1 (fun b hm=>hb.block b (h.lt b hm) (by have:=hd b hm;omega)) hb.size,h.2⟩
theorem Fr.round {N B:Nat} {w wr wc wA:World} {fp:List Nat} (h:Fr N B w wr) (hN:N<=wr.heap.size) (hc:Below wr.heap.size wr wc) (o:Obj) (ht:aA fp (wc.alloc o) wA) (hf:∀b∈fp,N<=b) (j:Nat) (v:Value):Fr N B w (wA.setCell ⟨B,j,none⟩ v):=by
 have h1:=hc.size;have h2:(wc.alloc o).heap.size=wc.heap.size+1:=by simp
 exact ((h.trans (Fr.ofBelow (Below.andThen hc ((Below.refl _ _).alloc (Nat.le_refl _) o)) hN)).trans (Fr.ofTurned ht (by omega) hf)).trans (Fr.ofSet _ _ _)
theorem ev {N:Nat} {wr wc wA:World} {fp fpx fpA:List Nat} {o:Obj} (hN:N<=wr.heap.size) (hc:Below wr.heap.size wr wc) (hf:∀b∈fp,N<=b) (hx:∀b∈fpx,wr.heap.size<=b/\b<wc.heap.size) (h2:∀b∈fpA,b∈fp∨b∈fpx∨(b=(wc.alloc o).heap.size/\b<wA.heap.size)):∀b∈fpA,N<=b:=by
 have h1:=hc.size;intro b hb;rcases h2 b hb with h|h|h
 . exact hf b h
 . have:=hx b h
   omega
 have:=h.1;simp at this
 omega
theorem eE {w:World} {v:Value} {zs:List Int} {fp:List Nat} (x:Int) (h:aD.Mine w [v] zs fp):tWr.Mine w [.int .i64 x,v] (x,zs) fp:=by
 have h1:eT.Mine w [.int .i64 x] x []:=⟨⟨rfl,rfl⟩,by simp⟩;exact gg (t:=eT) (u:=aD) (vs:=[_]) (us:=[_]) h1 h (by simp)
theorem aA.undrew {fp:List Nat} {w w':World} (h:aA fp w.drew w'):aA fp w w':=⟨h.os,h.tape,h.output,h.size,h.block⟩
theorem cH {w:World} {E:TypeId} {lo hi l0 u0 l1 u1 l3 u3:Nat} {v0 v1 v3:Value} {f:Bool} {ss:List (List Int)} {cs:List (Int×List Int)} {bs:List Int} (h0:aU.Own w l0 u0 [v0] ss) (h1:(aW E).Own w l1 u1 [v1] cs) (h3:aD.Own w l3 u3 [v3] bs)
 (d01:u0<=l1∨u1<=l0) (d03:u0<=l3∨u3<=l0) (d13:u1<=l3∨u3<=l1) (r0:lo<=l0/\u0<=hi) (r1:lo<=l1/\u1<=hi) (r3:lo<=l3/\u3<=hi):(cu E).Own w lo hi [v0,v1,.bool f,v3] (ss,cs,f,bs):=by
 obtain ⟨f0,m0,k0⟩:=h0.mine;obtain ⟨f1,m1,k1⟩:=h1.mine;obtain ⟨f3,m3,k3⟩:=h3.mine;have mb:fU.Mine w [.bool f] f []:=⟨⟨rfl,rfl⟩,by simp⟩;have p1:=gg (t:=fU) (u:=aD) (vs:=[_]) (us:=[_]) mb m3 (by simp);have p2:=gg (t:=aW E) (u:=er fU aD) (vs:=[_]) (us:=[_,_]) m1 p1 (fun b hb hb'=>by
  have e1:=k1 b hb;have e2:=k3 b (by simpa using hb');omega)
 have p3:=gg (t:=aU) (u:=er (aW E) (er fU aD)) (vs:=[_]) (us:=[_,_,_]) m0 p2 (fun b hb hb'=>by
  have e0:=k0 b hb;simp at hb'
  rcases hb' with h|h
  . have e1:=k1 b h
    omega
  have e3:=k3 b h;omega)
 refine Ty.Mine.own (t:=cu E) p3 (fun b hb=>?_)
 simp at hb
 rcases hb with h|h|h
 . have:=k0 b h
   omega
 . have:=k1 b h
   omega
 have:=k3 b h;omega
theorem vq {G:Nat->Nat->World->Option Addr->Nat->Prop} {A:Nat->Nat->World->Option Addr->Nat->List Nat->Prop} {C:Prop} (main:∀BO g w6 a5 c5 fp3,A BO g w6 a5 c5 fp3->G BO g w6 a5 c5) (use:Hid (∀BO g w6 a5 c5 fp3,A BO g w6 a5 c5 fp3->G BO g w6 a5 c5)->C):C:=use main
theorem jq {w:World} {lo:Nat} {v:Value} {zs:List Int} (h:bk .i64 3 w lo v zs):∃fp,aD.Mine w [v] zs fp/\∀b∈fp,v.ownBlock=some b/\b<w.heap.size:=by
 rcases h.2 with ⟨hv,hn⟩|⟨g,cap,cur,hv,hb,hg,hnc,hcm,hcs,ht⟩
 . exact ⟨[],⟨.inl ⟨by rw [hv],List.eq_nil_of_length_eq_zero hn,rfl⟩,by simp⟩,by simp⟩
 have hgl:g<w.heap.size:=(Array.getElem?_eq_some_iff.1 hg).1;refine ⟨[g],⟨.inr ⟨g,cap,cur,zs.map fun _=>[],by rw [hv],hnc,hcm,hg,hcs,by simp,by simp,fun i x hx=>?_⟩,by simp⟩,by intro b hb;simp at hb;subst hb;exact ⟨by rw [hv];rfl,hgl⟩⟩
 have hi:i<zs.length:=(List.getElem?_eq_some_iff.1 hx).1;refine ⟨[],by rw [List.getElem?_map,hx];rfl,?_,rfl⟩
 have e:cur.toList[i]?=some (.int .i64 x):=by
  have:(cur.toList.take (zs.length*1))[i]?=(zs.map (Value.int .i64))[i]?:=by rw [ht]
  rw [List.getElem?_take,if_pos (by omega),List.getElem?_map,hx] at this;exact this
 have hic:i<cur.toList.length:=(List.getElem?_eq_some_iff.1 e).1;show (cur.toList.drop (i*1)).take 1=_
 rw [Nat.mul_one,List.drop_eq_getElem_cons hic,List.take_succ_cons,List.take_zero];rw [List.getElem?_eq_getElem hic] at e;simp at e
 rw [Array.getElem_toList,e]
theorem eO {P:Program} {w:World} {ops:Array Oper} {o:Oper} {a:Act} {K:Act->World->Prop} {Q:Exit->Act->World->Prop} {G:Prop} (hgd:o.guard=none) (s x:Operand) (t:TypeId)
 (ho:o.op=.call { callee:=.builtin .append,args:=#[s,x],argTypes:=#[t,t] })
 (i:TypeInfo) (ht:P.underlying t=some (.slice 3)) (hi:P.info? 3=some i) (hz:i.zero=some (.int .i64 0)) (hsize:i.size=1) (hby:i.bytes=8)
 (g:Nat) (hs:a.eval s=.slice (some ⟨g,0,none⟩) 0 0) (hg:w.heap[g]?=some (.cells #[] 3 (0,0)))
 (src:Option Addr) (n cap:Nat) (zs:List Int) (hx:a.eval x=.slice src n cap) (hr:aD.Rd w [.slice src n cap] zs) (hn:n<=2097152)
 (h:∀a' c' w' fp,aD.Mine w' [.slice a' n c'] zs fp->(∀b∈fp,(b=g∨b=w.heap.size)/\b<w'.heap.size)->aA [g] w w'->K (a.put o.dst (.slice a' n c')) w'):
 if Region.wanted o (yielded ops a.tmps)=true then Oper.wp P o a w K Q else G:=by
 have hw:Region.wanted o (yielded ops a.tmps)=true:=by simp [Region.wanted,hgd]
 rw [if_pos hw];have hgl:g<w.heap.size:=(Array.getElem?_eq_some_iff.1 hg).1;have hown:w.ownsRow 0 3 1 (.slice (some ⟨g,0,none⟩) 0 0) 0 []:=⟨rfl,.inr ⟨g,0,#[],rfl,Nat.zero_le _,hg,Nat.le_refl _,Nat.zero_le _,rfl,rfl⟩⟩;obtain ⟨hrd,hl,_,_⟩:=aR hr;match src,hx,hr,hrd with
 | none,hx,hr,_=>
  obtain ⟨rfl,rfl,rfl⟩:=mX hr;have hrun:=run_append_owned_none (P:=P) (w:=w) 0 t o.type 3 i 1 ht hi _ 0 [] hown;unfold Oper.wp;simp [execOp,ho,resolve,invoke,builtin,hs,hx,hrun,Result.andThen]
  exact h _ _ w [g] ⟨.inr ⟨g,0,#[],[],rfl,Nat.le_refl _,by omega,hg,rfl,rfl,rfl,fun i x hx=>by simp at hx⟩,by simp⟩ (by simp;exact hgl) (aA.refl _ _)
 | some ad,hx,_,hrd=>
  obtain ⟨v',w',hrun,k1,k2,_,k4⟩:=run_append_own_at (P:=P) w 0 t o.type 3 i (.int .i64 0) 1 8 ht hi hz hsize hby rfl (by decide) _ 0 [] hown ad n cap (zs.map (Value.int .i64)) (by simp [hl]) hrd.cells (jH zs) (by unfold maxLen;omega) (by omega) (Nat.zero_le _);have ko:bk .i64 3 w' 0 v' zs:=by
   unfold bk;rw [hl];simpa using k1
  obtain ⟨fp,m1,m2⟩:=jq ko;obtain ⟨a',c',hv⟩:=aC m1.rd;rw [hl] at hv;subst hv;unfold Oper.wp;simp [execOp,ho,resolve,invoke,builtin,hs,hx,hrun,Result.andThen]
  refine h _ _ w' fp m1 (fun b hb=>⟨?_,(m2 b hb).2⟩) ⟨k2.os,k2.tape,k2.output,k2.size,fun k hk hf=>k2.block k hk (by simp [Value.ownBlock];exact fun e=>hf (by simp [e]))⟩
  have h1:=(m2 b hb).1;rw [h1] at k4;rcases k4 with k4|k4
  . left
    simpa [Value.ownBlock] using k4
  right
  simpa using k4
theorem im {t:Ty} {E:TypeId} {w:World} {g n cap j:Nat} {d:List t.D} {v:Value} {x:t.D} {fp f:List Nat} (ht:t.n=1) (h:(ce t E).Mine w [.slice (some ⟨g,0,none⟩) n cap] d fp)
 (hj:j<n) (hx:t.Mine w [v] x f) (hdis:∀b∈f,b∉fp):
 (∃old,w.cell? ⟨g,j,none⟩=some old)/\w.frozen? ⟨g,j,none⟩=false/\g∈fp/\∃fp',(ce t E).Mine (w.setCell ⟨g,j,none⟩ v) [.slice (some ⟨g,0,none⟩) n cap] (d.set j x) fp'/\∀b∈fp',b∈fp∨b∈f:=by
 obtain ⟨h,hn⟩:=h;obtain ⟨hx,hn'⟩:=hx;rcases h with ⟨h1,_⟩|⟨b,cap',cur,fps,h1,h2,h3,h4,h5,h6,h7,h8⟩
 . simp at h1
 simp only [List.cons.injEq,Value.slice.injEq,Option.some.injEq,Addr.mk.injEq,and_true] at h1
 obtain ⟨rfl,rfl,rfl⟩:=h1;have hgp:g∈fp:=by rw [h6];exact List.mem_cons_self
 have hjc:j<cur.size:=by rw [h5,ht];omega
 have hgf':g∉f:=fun hm=>hdis g hm hgp;rw [h6,List.nodup_cons] at hn;obtain ⟨hgf,hnf⟩:=hn;have hd2:∀b∈f,b∉fps.flatten:=fun b hb hbl=>hdis b hb (by rw [h6];exact List.mem_cons_of_mem _ hbl);obtain ⟨hsn,hsm⟩:=hU fps j f hnf hn' hd2;have hoth:∀b,b≠g->(w.setCell ⟨g,j,none⟩ v).heap[b]?=w.heap[b]?:=fun b hb=>Below.heap_setCell _ _ _ _ hb;have hsz:w.heap.size<=(w.setCell ⟨g,j,none⟩ v).heap.size:=by simp
 refine ⟨⟨cur[j],?_⟩,frozen_of_row w g j cur E h4,hgp,g :: (fps.set j f).flatten,⟨.inr ⟨g,cap,cur.setIfInBounds j v,fps.set j f,by rw [List.length_set],by rw [List.length_set];exact h2,h3,heap_setCell_same w g j cur E v h4,by simpa using h5,rfl,by rw [List.length_set,List.length_set];exact h7,fun i y hy=>?_⟩,?_⟩,?_⟩
 . rw [cell_of_row w g j cur E (0,0) h4,Array.getElem?_eq_getElem hjc]
 . by_cases hij:i=j
   . subst hij
     have hyx:y=x:=by
      rw [List.getElem?_set_self (by omega)] at hy;simpa using hy.symm
     subst hyx;refine ⟨f,List.getElem?_set_self (by rw [h7];omega),?_⟩
     have e:((cur.setIfInBounds i v).toList.drop (i*t.n)).take t.n=[v]:=by
      rw [ht,Nat.mul_one,Array.toList_setIfInBounds,List.drop_set,if_neg (by omega),Nat.sub_self,List.drop_eq_getElem_cons (by simpa using hjc),List.set_cons_zero];simp
     rw [e];exact t.owKept hx (fun b hb=>hoth b (fun e=>hgf' (e▸hb))) hsz
   rw [List.getElem?_set_ne (fun e=>hij e.symm)] at hy;obtain ⟨f2,hf,ho⟩:=h8 i y hy;refine ⟨f2,by rw [List.getElem?_set_ne (fun e=>hij e.symm)];exact hf,?_⟩
   have e:((cur.setIfInBounds j v).toList.drop (i*t.n)).take t.n=(cur.toList.drop (i*t.n)).take t.n:=by
    rw [ht,Nat.mul_one,Array.toList_setIfInBounds];apply List.ext_getElem?
    intro k;rw [List.getElem?_take,List.getElem?_take,List.getElem?_drop,List.getElem?_drop];by_cases hk:k<1
    . rw [if_pos hk,if_pos hk,List.getElem?_set_ne (by omega)]
    rw [if_neg hk,if_neg hk]
   rw [e];exact t.owKept ho (fun b hb=>hoth b (fun e'=>hgf (by rw [←e'];exact List.mem_flatten.2 ⟨f2,List.mem_of_getElem? hf,hb⟩))) hsz
 . rw [List.nodup_cons]
   refine ⟨fun hm=>?_,hsn⟩
   rcases hsm g hm with hm|hm
   . exact hgf' hm
   exact hgf hm
 intro b hb;rcases List.mem_cons.1 hb with rfl|hb
 . exact .inl hgp
 rcases hsm b hb with hb|hb
 . exact .inr hb
 exact .inl (by rw [h6];exact List.mem_cons_of_mem _ hb)
theorem jB:∀(fs:List (List Nat)) (i j:Nat) (f f':List Nat),fs.flatten.Nodup->fs[i]?=some f->fs[j]?=some f'->i<j->∀b∈f,b∉f'
 | [],i,_,_,_,_,h,_,_=>by simp at h
 | g :: fs,0,j+1,f,f',hn,hi,hj,_=>by
  simp at hi
  subst hi;rw [List.flatten_cons,List.nodup_append] at hn;intro b hb hb';refine hn.2.2 b hb b (List.mem_flatten.2 ⟨f',List.mem_of_getElem? (i:=j) (by simpa using hj),hb'⟩) rfl
 | g :: fs,i+1,j+1,f,f',hn,hi,hj,hij=>by
  rw [List.flatten_cons,List.nodup_append] at hn;exact jB fs i j f f' hn.2.1 (by simpa using hi) (by simpa using hj) (by omega)
 | g :: fs,i,0,f,f',_,_,_,hij=>by omega
theorem fF {t:Ty} {E:TypeId} {w:World} {g n cap:Nat} {d:List t.D} {fp:List Nat} (h:(ce t E).Mine w [.slice (some ⟨g,0,none⟩) n cap] d fp):
 g∈fp/\∃F:Nat->List Nat,(∀i x,d[i]?=some x->∃cs,t.Mine w cs x (F i)/\g∉F i/\(∀b∈F i,b∈fp)/\∀k,k<t.n->w.cell? ⟨g,i*t.n+k,none⟩=cs[k]?)/\∀i j,i<j->j<d.length->∀b∈F i,b∉F j:=by
 obtain ⟨h,hn⟩:=h;rcases h with ⟨h1,_⟩|⟨b,cap',cur,fps,h1,h2,h3,h4,h5,h6,h7,h8⟩
 . simp at h1
 simp only [List.cons.injEq,Value.slice.injEq,Option.some.injEq,Addr.mk.injEq,and_true] at h1
 obtain ⟨rfl,rfl,rfl⟩:=h1;rw [h6,List.nodup_cons] at hn;obtain ⟨hgf,hnf⟩:=hn;refine ⟨by rw [h6];exact List.mem_cons_self,fun i=>fps.getD i [],fun i x hx=>?_,fun i j hij hj b hb hb'=>?_⟩
 . obtain ⟨f,hf,ho⟩:=h8 i x hx
   obtain ⟨k1,k2,_⟩:=eU hnf hf;have hgd:fps.getD i []=f:=by rw [List.getD_eq_getElem?_getD,hf];rfl
   simp only [hgd]
   refine ⟨_,⟨ho,k1⟩,fun hm=>hgf (k2 g hm),fun b hb=>by rw [h6];exact List.mem_cons_of_mem _ (k2 b hb),fun k hk=>?_⟩
   rw [cell_of_row w g _ cur E (0,0) h4,List.getElem?_take,if_pos hk,List.getElem?_drop];simp
 have e1:fps[i]?=some (fps.getD i []):=by rw [List.getD_eq_getElem?_getD,List.getElem?_eq_getElem (by omega)];rfl
 have e2:fps[j]?=some (fps.getD j []):=by rw [List.getD_eq_getElem?_getD,List.getElem?_eq_getElem (by omega)];rfl
 exact jB fps i j _ _ hnf e1 e2 hij b hb hb'
theorem eh {w V:World} {N R m1 m2 h:Nat} {v0 v1 v3:Value} {f:Bool} {ss:List (List Int)} {cs:List (Int×List Int)} {bs:List Int} (B:Below w.heap.size w V) (D:aD.Own V N m1 [v3] bs) (S:aU.Own V m1 m2 [v0] ss) (C:(aW 119).Own V m2 h [v1] cs) (r1:N<=m1) (r2:m1<=m2) (r3:m2<=h) (rh:h<=V.heap.size) (hR:R<N) (hw:w.heap.size<=R):
 (cu 119).Own ((((V.setCell ⟨R,0,none⟩ v0).setCell ⟨R,1,none⟩ v1).setCell ⟨R,2,none⟩ (.bool f)).setCell ⟨R,3,none⟩ v3) w.heap.size ((((V.setCell ⟨R,0,none⟩ v0).setCell ⟨R,1,none⟩ v1).setCell ⟨R,2,none⟩ (.bool f)).setCell ⟨R,3,none⟩ v3).heap.size [v0,v1,.bool f,v3] (ss,cs,f,bs)/\Below w.heap.size w ((((V.setCell ⟨R,0,none⟩ v0).setCell ⟨R,1,none⟩ v1).setCell ⟨R,2,none⟩ (.bool f)).setCell ⟨R,3,none⟩ v3):=by
 have hbt:But R (R+1) V ((((V.setCell ⟨R,0,none⟩ v0).setCell ⟨R,1,none⟩ v1).setCell ⟨R,2,none⟩ (.bool f)).setCell ⟨R,3,none⟩ v3):=(((But.setCell (by omega) (by omega) _).trans (But.setCell (by omega) (by omega) _)).trans (But.setCell (by omega) (by omega) _)).trans (But.setCell (by omega) (by omega) _);have z:=hbt.size;exact ⟨cH (S.but hbt (by omega)) (C.but hbt (by omega)) (D.but hbt (by omega)) (by omega) (by omega) (by omega) ⟨by omega,by omega⟩ ⟨by omega,by omega⟩ ⟨by omega,by omega⟩,Below.andBut B hbt hw⟩
theorem eb {t:Ty} {E:TypeId} {w:World} {a:Option Addr} {n cap:Nat} {d:List t.D} (ht:t.n=4) (h:(ce t E).Rd w [.slice a n cap] d):
 n=0∨∃b off,a=some ⟨b,off,none⟩/\b<w.heap.size/\∀i x,d[i]?=some x->∃v0 v1 v2 v3,w.cell? ⟨b,off+i*4,none⟩=some v0/\w.cell? ⟨b,off+i*4+1,none⟩=some v1/\w.cell? ⟨b,off+i*4+2,none⟩=some v2/\w.cell? ⟨b,off+i*4+3,none⟩=some v3/\t.Rd w [v0,v1,v2,v3] x:=by
 obtain ⟨fp,a',cap',hv,h2,h3,h4⟩:=h;simp only [List.cons.injEq,Value.slice.injEq,and_true] at hv
 obtain ⟨rfl,rfl,rfl⟩:=hv;rcases h4 with ⟨h5,_⟩|⟨b,off,fps,h5,h6,_,_,h9⟩
 . exact .inl h5
 refine .inr ⟨b,off,h5,h6,fun i x hx=>?_⟩
 obtain ⟨f,cs,_,hrd,hc⟩:=h9 i x hx;have hl:=t.rdLen hrd;rw [ht] at hl;match cs,hl with
 | [v0,v1,v2,v3],_=>
  refine ⟨v0,v1,v2,v3,?_,?_,?_,?_,f,hrd⟩
  . have:=hc 0 (by omega)
    rw [ht,Nat.add_zero] at this;exact this
  . have:=hc 1 (by omega)
    rw [ht,←Nat.add_assoc] at this;exact this
  . have:=hc 2 (by omega)
    rw [ht,←Nat.add_assoc] at this;exact this
  have:=hc 3 (by omega);rw [ht,←Nat.add_assoc] at this;exact this
end Go.Proofs.YtgjomldcnjjpaaaGreat
