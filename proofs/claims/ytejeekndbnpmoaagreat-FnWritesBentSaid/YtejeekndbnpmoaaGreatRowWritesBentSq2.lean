/-
 The walks of the specification's l8At and l8Stripe: where a stripe's entry is, a stripe as it is asked. Conditions: the array weighs at most 2097152; l8Stripe: a right Geo, such a stripe.
-/
import Derived.Test.YtejeekndbnpmoaaGreatRowWritesBentSq1
import Derived.Test.YtejeekndbnpmoaaGreatRows

set_option maxRecDepth 100000
set_option maxHeartbeats 8000000
set_option linter.unusedSimpArgs false

namespace Go.Proofs.YtejeekndbnpmoaaGreat
open Go.RowKit

structure Fr (N B:Nat) (w w':World):Prop where
 os:w'.os=w.os
 tape:w'.tape=w.tape
 output:w'.output=w.output
 size:w.heap.size<=w'.heap.size
 block:∀k,k<N->k≠B->w'.heap[k]?=w.heap[k]?
theorem Fr.refl (N B:Nat) (w:World):Fr N B w w:=⟨rfl,rfl,rfl,Nat.le_refl _,fun _ _ _=>rfl⟩
theorem Fr.trans {N B:Nat} {a b c:World} (h:Fr N B a b) (k:Fr N B b c):Fr N B a c:=
 ⟨k.os.trans h.os,k.tape.trans h.tape,k.output.trans h.output,Nat.le_trans h.size k.size,fun i hi ho=>(k.block i hi ho).trans (h.block i hi ho)⟩
theorem Fr.box {N B C:Nat} {w w':World} {T:TypeId} {cs:Array Value} (h:Fr N B w w') (x:Box w C T cs) (hC:C<N) (hne:C≠B):Box w' C T cs:=x.kept (h.block C hC hne)
theorem Fr.below {N B M:Nat} {w w':World} (h:Fr N B w w') (h1:M<=N) (h2:M<=B):Below M w w':=⟨h.os,h.tape,h.output,h.size,fun k hk=>h.block k (by omega) (by omega)⟩
theorem Fr.own {t:Ty} {N B lo hi:Nat} {w w':World} {vs:List Value} {d:t.D} (h:Fr N B w w') (o:t.Own w lo hi vs d) (h1:hi<=N) (h2:hi<=B∨B<lo):t.Own w' lo hi vs d:=by
 obtain ⟨fp,k1,k2,k3⟩:=o;exact ⟨fp,t.owKept k1 (fun b hb=>h.block b (by have:=k3 b hb;omega) (by have:=k3 b hb;omega)) h.size,k2,k3⟩
theorem Fr.ofBelow {N B:Nat} {w w':World} (h:Below w.heap.size w w') (hN:N<=w.heap.size):Fr N B w w':=⟨h.os,h.tape,h.output,h.size,fun k hk _=>h.block k (by omega)⟩
theorem Fr.ofTurned {N B:Nat} {w w':World} {fp:List Nat} (h:aw fp w w') (hN:N<=w.heap.size) (hf:∀b∈fp,N<=b):Fr N B w w':=
 ⟨h.os,h.tape,h.output,h.size,fun k hk _=>h.block k (by omega) (fun hm=>by have:=hf k hm;omega)⟩
theorem Fr.ofSet {N B:Nat} (w:World) (j:Nat) (v:Value):Fr N B w (w.setCell ⟨B,j,none⟩ v):=⟨rfl,rfl,rfl,by simp [World.setCell],fun k _ hk=>Below.heap_setCell _ _ _ _ (by simpa using hk)⟩
theorem Fr.mine {t:Ty} {N B:Nat} {w w':World} {vs:List Value} {d:t.D} {fp:List Nat} (h:Fr N B w w') (o:t.Mine w vs d fp) (h1:∀b∈fp,b<N/\b≠B):t.Mine w' vs d fp:=⟨t.owKept o.1 (fun b hb=>h.block b (h1 b hb).1 (h1 b hb).2) h.size,o.2⟩
theorem Ty.Mine.but {t:Ty} {w w':World} {lo hi:Nat} {vs:List Value} {d:t.D} {fp:List Nat} (h:t.Mine w vs d fp) (hb:But lo hi w w') (hd:∀b∈fp,b<lo∨hi<=b):t.Mine w' vs d fp:=⟨t.owKept h.1 (fun b hm=>hb.block b (h.lt b hm) (by have:=hd b hm;omega)) hb.size,h.2⟩
theorem Fr.round {N B:Nat} {w wr wc wA:World} {fp:List Nat} (h:Fr N B w wr) (hN:N<=wr.heap.size) (hc:Below wr.heap.size wr wc) (o:Obj) (ht:aw fp (wc.alloc o) wA) (hf:∀b∈fp,N<=b) (j:Nat) (v:Value):Fr N B w (wA.setCell ⟨B,j,none⟩ v):=by
 have h1:=hc.size;have h2:(wc.alloc o).heap.size=wc.heap.size+1:=by simp
 exact ((h.trans (Fr.ofBelow (Below.andThen hc ((Below.refl _ _).alloc (Nat.le_refl _) o)) hN)).trans (Fr.ofTurned ht (by omega) hf)).trans (Fr.ofSet _ _ _)
theorem dC {N:Nat} {wr wc wA:World} {fp fpx fpA:List Nat} {o:Obj} (hN:N<=wr.heap.size) (hc:Below wr.heap.size wr wc) (hf:∀b∈fp,N<=b) (hx:∀b∈fpx,wr.heap.size<=b/\b<wc.heap.size) (h2:∀b∈fpA,b∈fp∨b∈fpx∨(b=(wc.alloc o).heap.size/\b<wA.heap.size)):∀b∈fpA,N<=b:=by
 have h1:=hc.size;intro b hb;rcases h2 b hb with h|h|h
 . exact hf b h
 . have:=hx b h
   omega
 have:=h.1;simp at this
 omega
theorem dK {w:World} {v:Value} {zs:List Int} {fp:List Nat} (x:Int) (h:aA.Mine w [v] zs fp):tWr.Mine w [.int .i64 x,v] (x,zs) fp:=by
 have h1:ey.Mine w [.int .i64 x] x []:=⟨⟨rfl,rfl⟩,by simp⟩;exact fF (t:=ey) (u:=aA) (vs:=[_]) (us:=[_]) h1 h (by simp)
theorem aw.undrew {fp:List Nat} {w w':World} (h:aw fp w.drew w'):aw fp w w':=⟨h.os,h.tape,h.output,h.size,h.block⟩
theorem ch {w:World} {E:TypeId} {lo hi l0 u0 l1 u1 l3 u3:Nat} {v0 v1 v3:Value} {f:Bool} {ss:List (List Int)} {cs:List (Int×List Int)} {bs:List Int} (h0:aT.Own w l0 u0 [v0] ss) (h1:(aU E).Own w l1 u1 [v1] cs) (h3:aA.Own w l3 u3 [v3] bs)
 (d01:u0<=l1∨u1<=l0) (d03:u0<=l3∨u3<=l0) (d13:u1<=l3∨u3<=l1) (r0:lo<=l0/\u0<=hi) (r1:lo<=l1/\u1<=hi) (r3:lo<=l3/\u3<=hi):(bR E).Own w lo hi [v0,v1,.bool f,v3] (ss,cs,f,bs):=by
 obtain ⟨f0,m0,k0⟩:=h0.mine;obtain ⟨f1,m1,k1⟩:=h1.mine;obtain ⟨f3,m3,k3⟩:=h3.mine;have mb:fy.Mine w [.bool f] f []:=⟨⟨rfl,rfl⟩,by simp⟩;have p1:=fF (t:=fy) (u:=aA) (vs:=[_]) (us:=[_]) mb m3 (by simp);have p2:=fF (t:=aU E) (u:=dU fy aA) (vs:=[_]) (us:=[_,_]) m1 p1 (fun b hb hb'=>by
  have e1:=k1 b hb;have e2:=k3 b (by simpa using hb');omega)
 have p3:=fF (t:=aT) (u:=dU (aU E) (dU fy aA)) (vs:=[_]) (us:=[_,_,_]) m0 p2 (fun b hb hb'=>by
  have e0:=k0 b hb;simp at hb'
  rcases hb' with h|h
  . have e1:=k1 b h
    omega
  have e3:=k3 b h;omega)
 refine Ty.Mine.own (t:=bR E) p3 (fun b hb=>?_)
 simp at hb
 rcases hb with h|h|h
 . have:=k0 b h
   omega
 . have:=k1 b h
   omega
 have:=k3 b h;omega
theorem tE {G:Nat->Nat->World->Option Addr->Nat->Prop} {A:Nat->Nat->World->Option Addr->Nat->List Nat->Prop} {C:Prop} (main:∀BO g w6 a5 c5 fp3,A BO g w6 a5 c5 fp3->G BO g w6 a5 c5) (use:Hid (∀BO g w6 a5 c5 fp3,A BO g w6 a5 c5 fp3->G BO g w6 a5 c5)->C):C:=use main
theorem jh {w:World} {lo:Nat} {v:Value} {zs:List Int} (h:bj .i64 3 w lo v zs):∃fp,aA.Mine w [v] zs fp/\∀b∈fp,v.ownBlock=some b/\b<w.heap.size:=by
 rcases h.2 with ⟨hv,hn⟩|⟨g,cap,cur,hv,hb,hg,hnc,hcm,hcs,ht⟩
 . exact ⟨[],⟨.inl ⟨by rw [hv],List.eq_nil_of_length_eq_zero hn,rfl⟩,by simp⟩,by simp⟩
 have hgl:g<w.heap.size:=(Array.getElem?_eq_some_iff.1 hg).1;refine ⟨[g],⟨.inr ⟨g,cap,cur,zs.map fun _=>[],by rw [hv],hnc,hcm,hg,hcs,by simp,by simp,fun i x hx=>?_⟩,by simp⟩,by intro b hb;simp at hb;subst hb;exact ⟨by rw [hv];rfl,hgl⟩⟩
 have hi:i<zs.length:=(List.getElem?_eq_some_iff.1 hx).1;refine ⟨[],by rw [List.getElem?_map,hx];rfl,?_,rfl⟩
 have e:cur.toList[i]?=some (.int .i64 x):=by
  have:(cur.toList.take (zs.length*1))[i]?=(zs.map (Value.int .i64))[i]?:=by rw [ht]
  rw [List.getElem?_take,if_pos (by omega),List.getElem?_map,hx] at this;exact this
 have hic:i<cur.toList.length:=(List.getElem?_eq_some_iff.1 e).1;show (cur.toList.drop (i*1)).take 1=_
 rw [Nat.mul_one,List.drop_eq_getElem_cons hic,List.take_succ_cons,List.take_zero];rw [List.getElem?_eq_getElem hic] at e;simp at e
 rw [Array.getElem_toList,e]
theorem dL {P:Program} {w:World} {ops:Array Oper} {o:Oper} {a:Act} {K:Act->World->Prop} {Q:Exit->Act->World->Prop} {G:Prop} (hgd:o.guard=none) (s x:Operand) (t:TypeId)
 (ho:o.op=.call { callee:=.builtin .append,args:=#[s,x],argTypes:=#[t,t] })
 (i:TypeInfo) (ht:P.underlying t=some (.slice 3)) (hi:P.info? 3=some i) (hz:i.zero=some (.int .i64 0)) (hsize:i.size=1) (hby:i.bytes=8)
 (g:Nat) (hs:a.eval s=.slice (some ⟨g,0,none⟩) 0 0) (hg:w.heap[g]?=some (.cells #[] 3 (0,0)))
 (src:Option Addr) (n cap:Nat) (zs:List Int) (hx:a.eval x=.slice src n cap) (hr:aA.Rd w [.slice src n cap] zs) (hn:n<=2097152)
 (h:∀a' c' w' fp,aA.Mine w' [.slice a' n c'] zs fp->(∀b∈fp,(b=g∨b=w.heap.size)/\b<w'.heap.size)->aw [g] w w'->K (a.put o.dst (.slice a' n c')) w'):
 if Region.wanted o (yielded ops a.tmps)=true then Oper.wp P o a w K Q else G:=by
 have hw:Region.wanted o (yielded ops a.tmps)=true:=by simp [Region.wanted,hgd]
 rw [if_pos hw];have hgl:g<w.heap.size:=(Array.getElem?_eq_some_iff.1 hg).1;have hown:w.ownsRow 0 3 1 (.slice (some ⟨g,0,none⟩) 0 0) 0 []:=⟨rfl,.inr ⟨g,0,#[],rfl,Nat.zero_le _,hg,Nat.le_refl _,Nat.zero_le _,rfl,rfl⟩⟩;obtain ⟨hrd,hl,_,_⟩:=aP hr;match src,hx,hr,hrd with
 | none,hx,hr,_=>
  obtain ⟨rfl,rfl,rfl⟩:=lC hr;have hrun:=run_append_owned_none (P:=P) (w:=w) 0 t o.type 3 i 1 ht hi _ 0 [] hown;unfold Oper.wp;simp [execOp,ho,resolve,invoke,builtin,hs,hx,hrun,Result.andThen]
  exact h _ _ w [g] ⟨.inr ⟨g,0,#[],[],rfl,Nat.le_refl _,by omega,hg,rfl,rfl,rfl,fun i x hx=>by simp at hx⟩,by simp⟩ (by simp;exact hgl) (aw.refl _ _)
 | some ad,hx,_,hrd=>
  obtain ⟨v',w',hrun,k1,k2,_,k4⟩:=run_append_own_at (P:=P) w 0 t o.type 3 i (.int .i64 0) 1 8 ht hi hz hsize hby rfl (by decide) _ 0 [] hown ad n cap (zs.map (Value.int .i64)) (by simp [hl]) hrd.cells (jw zs) (by unfold maxLen;omega) (by omega) (Nat.zero_le _);have ko:bj .i64 3 w' 0 v' zs:=by
   unfold bj;rw [hl];simpa using k1
  obtain ⟨fp,m1,m2⟩:=jh ko;obtain ⟨a',c',hv⟩:=az m1.rd;rw [hl] at hv;subst hv;unfold Oper.wp;simp [execOp,ho,resolve,invoke,builtin,hs,hx,hrun,Result.andThen]
  refine h _ _ w' fp m1 (fun b hb=>⟨?_,(m2 b hb).2⟩) ⟨k2.os,k2.tape,k2.output,k2.size,fun k hk hf=>k2.block k hk (by simp [Value.ownBlock];exact fun e=>hf (by simp [e]))⟩
  have h1:=(m2 b hb).1;rw [h1] at k4;rcases k4 with k4|k4
  . left
    simpa [Value.ownBlock] using k4
  right
  simpa using k4
def Ty.In (t:Ty) (w:World) (lo hi:Nat) (vs:List Value) (d:t.D):Prop:=∃fp,t.rd w vs d fp/\∀b∈fp,lo<=b/\b<hi
theorem Ty.In.rd {t:Ty} {w:World} {lo hi:Nat} {vs:List Value} {d:t.D} (h:t.In w lo hi vs d):t.Rd w vs d:=by
 obtain ⟨fp,h,_⟩:=h;exact ⟨fp,h⟩
theorem Ty.Own.toIn {t:Ty} {w:World} {lo hi:Nat} {vs:List Value} {d:t.D} (h:t.Own w lo hi vs d):t.In w lo hi vs d:=by
 obtain ⟨fp,h,_,hr⟩:=h;exact ⟨fp,t.owRd h,hr⟩
theorem Ty.Mine.toIn {t:Ty} {w:World} {lo hi:Nat} {vs:List Value} {d:t.D} {fp:List Nat} (h:t.Mine w vs d fp) (hr:∀b∈fp,lo<=b/\b<hi):t.In w lo hi vs d:=⟨fp,t.owRd h.1,hr⟩
theorem Ty.In.but {t:Ty} {w w':World} {lo hi l h':Nat} {vs:List Value} {d:t.D} (h:t.In w lo hi vs d) (hb:But l h' w w') (hd:hi<=l∨h'<=lo):t.In w' lo hi vs d:=by
 obtain ⟨fp,h,hr⟩:=h;exact ⟨fp,t.rdKept h (fun b hb'=>hb.block b (t.rdLt h b hb') (by have:=hr b hb';omega)) hb.size,hr⟩
theorem Ty.In.below {t:Ty} {w w':World} {lo hi:Nat} {vs:List Value} {d:t.D} (h:t.In w lo hi vs d) (hb:Below w.heap.size w w'):t.In w' lo hi vs d:=by
 obtain ⟨fp,h,hr⟩:=h;exact ⟨fp,t.rdKept h (fun b hb'=>hb.block b (t.rdLt h b hb')) hb.size,hr⟩
theorem Ty.In.under {t:Ty} {w w':World} {lo hi N:Nat} {vs:List Value} {d:t.D} (h:t.In w lo hi vs d) (hb:Below N w w') (hN:hi<=N):t.In w' lo hi vs d:=by
 obtain ⟨fp,h,hr⟩:=h;exact ⟨fp,t.rdKept h (fun b hb'=>hb.block b (by have:=hr b hb';omega)) hb.size,hr⟩
theorem Ty.In.turned {t:Ty} {w w':World} {lo hi:Nat} {vs:List Value} {d:t.D} {fq:List Nat} (h:t.In w lo hi vs d) (ht:aw fq w w') (hd:∀b∈fq,b<lo∨hi<=b):t.In w' lo hi vs d:=by
 obtain ⟨fp,h,hr⟩:=h;exact ⟨fp,t.rdKept h (fun b hb'=>ht.block b (t.rdLt h b hb') (fun hm=>by have h1:=hr b hb';have h2:=hd b hm;omega)) ht.size,hr⟩
theorem Ty.In.widen {t:Ty} {w:World} {lo hi lo' hi':Nat} {vs:List Value} {d:t.D} (h:t.In w lo hi vs d) (h1:lo'<=lo) (h2:hi<=hi'):t.In w lo' hi' vs d:=by
 obtain ⟨fp,h,hr⟩:=h;exact ⟨fp,h,fun b hb=>by have:=hr b hb;omega⟩
theorem nil_in {t:Ty} {E:TypeId} (w:World) (lo hi:Nat) (a:Addr):(bQ t E).In w lo hi [.slice (some a) 0 0] []:=⟨[],⟨some a,0,rfl,Nat.le_refl _,by omega,.inl ⟨rfl,rfl,fun h=>by cases h⟩⟩,by simp⟩
theorem nP {w:World} {E:TypeId} {lo hi:Nat} {v0 v1 v3:Value} {f:Bool} {ss:List (List Int)} {cs:List (Int×List Int)} {bs:List Int} (h:(bR E).Own w lo hi [v0,v1,.bool f,v3] (ss,cs,f,bs)):
 ∃f0 f1 f3,aT.Mine w [v0] ss f0/\(aU E).Mine w [v1] cs f1/\aA.Mine w [v3] bs f3/\(∀b∈f0,lo<=b/\b<hi/\b∉f1/\b∉f3)/\(∀b∈f1,lo<=b/\b<hi/\b∉f0/\b∉f3)/\∀b∈f3,lo<=b/\b<hi/\b∉f0/\b∉f1:=by
 obtain ⟨fp,h,hr⟩:=h.mine;obtain ⟨f0,g1,rfl,m0,h,d0⟩:=et (t:=aT) (u:=dU (aU E) (dU fy aA)) (vs:=[_]) (us:=[_,_,_]) rfl h;obtain ⟨f1,g2,rfl,m1,h,d1⟩:=et (t:=aU E) (u:=dU fy aA) (vs:=[_]) (us:=[_,_]) rfl h;obtain ⟨fb,f3,rfl,_,m3,_⟩:=et (t:=fy) (u:=aA) (vs:=[_]) (us:=[_]) rfl h;refine ⟨f0,f1,f3,m0,m1,m3,fun b hb=>?_,fun b hb=>?_,fun b hb=>?_⟩
 . have h1:=hr b (by simp [hb])
   have h2:=d0 b hb;simp at h2
   exact ⟨h1.1,h1.2,h2.1,h2.2.2⟩
 . have h1:=hr b (by simp [hb])
   have h2:=d1 b hb;simp at h2
   refine ⟨h1.1,h1.2,fun hm=>?_,h2.2⟩
   have:=d0 b hm;simp [hb] at this
 have h1:=hr b (by simp [hb]);refine ⟨h1.1,h1.2,fun hm=>?_,fun hm=>?_⟩
 . have:=d0 b hm
   simp [hb] at this
 have:=d1 b hm;simp [hb] at this
theorem dW {t:Ty} {E:TypeId} {w:World} {a:Option Addr} {n cap:Nat} {d:List t.D} (ht:t.n=4) (h:(bQ t E).Rd w [.slice a n cap] d):
 n=0∨∃b off,a=some ⟨b,off,none⟩/\b<w.heap.size/\∀i x,d[i]?=some x->∃v0 v1 v2 v3,w.cell? ⟨b,off+i*4,none⟩=some v0/\w.cell? ⟨b,off+i*4+1,none⟩=some v1/\w.cell? ⟨b,off+i*4+2,none⟩=some v2/\w.cell? ⟨b,off+i*4+3,none⟩=some v3/\t.Rd w [v0,v1,v2,v3] x:=by
 obtain ⟨fp,a',cap',hv,h2,h3,h4⟩:=h;simp only [List.cons.injEq,Value.slice.injEq,and_true] at hv
 obtain ⟨rfl,rfl,rfl⟩:=hv;rcases h4 with ⟨h5,_⟩|⟨b,off,fps,h5,h6,_,_,h9⟩
 . exact .inl h5
 refine .inr ⟨b,off,h5,h6,fun i x hx=>?_⟩
 obtain ⟨f,cs,_,hrd,hc⟩:=h9 i x hx;have hl:=t.rdLen hrd;rw [ht] at hl;match cs,hl with
 | [v0,v1,v2,v3],_=>
  refine ⟨v0,v1,v2,v3,?_,?_,?_,?_,f,hrd⟩
  . have:=hc 0 (by omega)
    rw [ht,Nat.add_zero] at this;exact this
  . have:=hc 1 (by omega)
    rw [ht,←Nat.add_assoc] at this;exact this
  . have:=hc 2 (by omega)
    rw [ht,←Nat.add_assoc] at this;exact this
  have:=hc 3 (by omega);rw [ht,←Nat.add_assoc] at this;exact this
abbrev bt (E F:TypeId):Ty:=bQ (bR E) F
abbrev ai:Type:=List (List Int)×List (Int×List Int)×Bool×List Int
def aV (d:List ai):Nat:=d.length+ei (d.map aQ)
theorem eN {d:List ai} {j:Nat} {x:ai} (h:d[j]?=some x):aQ x<=aV d:=by
 have h1:=kg (l:=d.map aQ) (j:=j) (x:=aQ x) (by rw [List.getElem?_map,h];rfl);have h2:=oN (l:=d.map aQ) (j+1);unfold aV;omega
theorem fR {E:TypeId} {w:World} {v0 v1 v2 v3:Value} {x:ai} (h:(bR E).Rd w [v0,v1,v2,v3] x):
 ∃a0 c0 a1 c1 a3 c3 ss cs f bs,x=(ss,cs,f,bs)/\v0=.slice a0 ss.length c0/\v1=.slice a1 cs.length c1/\v2=.bool f/\v3=.slice a3 bs.length c3/\aT.Rd w [.slice a0 ss.length c0] ss/\(aU E).Rd w [.slice a1 cs.length c1] cs/\aA.Rd w [.slice a3 bs.length c3] bs:=by
 obtain ⟨ss,cs,f,bs⟩:=x;obtain ⟨a0,c0,a1,c1,a3,c3,rfl,rfl,rfl,rfl,h0,h1,h3⟩:=oO h;exact ⟨a0,c0,a1,c1,a3,c3,ss,cs,f,bs,rfl,rfl,rfl,rfl,rfl,h0,h1,h3⟩
theorem Tryz.infoMem:(Tryz.prog.info? 101).map (fun i=>(i.zero,i.size,i.bytes))=some (some (.agg #[.slice none 0 0,.slice none 0 0,.bool false,.slice none 0 0]),4,80):=by kernel_rfl
theorem Tryz.infoEnt:(Tryz.prog.info? 90).map (fun i=>(i.zero,i.size,i.bytes))=some (some (.agg #[.int .i64 0,.slice none 0 0]),2,32):=by kernel_rfl
def inB (x least most:Int):Bool:=decide (least<=x)&&decide (x<=most)
theorem aE (x least most:Int) (w:World):Calls Tryz.prog 122 #[.int .i64 x,.int .i64 least,.int .i64 most] w fun e w'=>e=.returned (.bool (inB x least most))/\w'=w:=by
 unfold inB;by_cases h0:least<=x
 . by_cases h1:x<=most
   . go_enter Tryz.func122,Tryz.ntmps122
     go_wp2
     go_ret
     exact ⟨ag (by simp [h0,h1]),rfl⟩
   go_enter Tryz.func122,Tryz.ntmps122
   go_wp2
   go_ret
   exact ⟨ag (by symm;simp;omega),rfl⟩
 go_enter Tryz.func122,Tryz.ntmps122
 go_wp2
 go_ret
 exact ⟨ag (by symm;simp;omega),rfl⟩
theorem bE (x least most:Int) (w:World):Calls Tryz.prog 78 #[.int .i64 x,.int .i64 least,.int .i64 most] w fun e w'=>e=.returned (.bool (inB x least most))/\w'=w:=by
 unfold inB;by_cases h0:least<=x
 . by_cases h1:x<=most
   . go_enter Tryz.func78,Tryz.ntmps78
     go_wp2
     go_ret
     exact ⟨ag (by simp [h0,h1]),rfl⟩
   go_enter Tryz.func78,Tryz.ntmps78
   go_wp2
   go_ret
   exact ⟨ag (by symm;simp;omega),rfl⟩
 go_enter Tryz.func78,Tryz.ntmps78
 go_wp2
 go_ret
 exact ⟨ag (by symm;simp;omega),rfl⟩
def bF (n s:Int):Bool:=inB n 3 5&&inB s 1 8
def aX (n s:Int):Int:=if bF n s=true then s*(n-1) else 0
def bG (n s t:Int):Bool:=bF n s&&inB t 0 (s-1)
def bX (n s t:Int):Int:=if bG n s t=true then n-1-t % n else -1
def fC (n s t i:Int):Bool:=bG n s t&&inB i 0 (n-2)
def fa (n s t i:Int):Int:=if fC n s t i=true then (n-1-t % n+1+i) % n else -1
def cl (n s b:Int):Bool:=inB b 0 (aX n s-1)
def bC (n s b:Int):Int:=if cl n s b=true then b / (n-1) else -1
def cS (n s b:Int):Int:=if cl n s b=true then b % (n-1) else -1
def fS (n s t i:Int):Int:=if fC n s t i=true then t*(n-1)+i else -1
theorem aI {x l m:Int}:inB x l m=true ↔ l<=x/\x<=m:=by unfold inB;simp
theorem fG {x l m:Int}:inB x l m=false ↔ ¬(l<=x/\x<=m):=by rw [←aI];simp
theorem aB {n s:Int}:bF n s=true ↔ 3<=n/\n<=5/\1<=s/\s<=8:=by unfold bF;rw [Bool.and_eq_true,aI,aI,and_assoc]
theorem iN {n s:Int} (h:bF n s=true):2<=s*(n-1)/\s*(n-1)<=32:=by
 obtain ⟨h1,h2,h3,h4⟩:=aB.1 h;have:n=3∨n=4∨n=5:=by omega
 rcases this with rfl|rfl|rfl<;>omega
theorem fU {n s:Int} (h:bF n s=true):aX n s=s*(n-1):=by unfold aX;rw [if_pos h]
theorem fh {n s:Int} (h:bF n s=false):aX n s=0:=by unfold aX;rw [if_neg (by simp [h])]
theorem eU (n s:Int):0<=aX n s/\aX n s<=32:=by
 by_cases h:bF n s=true
 . rw [fU h]
   have:=iN h;omega
 rw [fh (by simpa using h)];omega
def bL (w:World) (B:Nat) (T:TypeId) (n s:Int):Prop:=w.heap[B]?=some (.cells #[.int .i64 n,.int .i64 s] T (0,0))
theorem bL.cells {w:World} {B:Nat} {T:TypeId} {n s:Int} (h:bL w B T n s):w.cell? ⟨B,0,none⟩=some (.int .i64 n)/\w.cell? ⟨B,1,none⟩=some (.int .i64 s):=
 ⟨cell_of_row w B 0 _ T (0,0) h,cell_of_row w B 1 _ T (0,0) h⟩
theorem bL.frozen {w:World} {B:Nat} {T:TypeId} {n s:Int} (h:bL w B T n s) (j:Nat):w.frozen? ⟨B,j,none⟩=false:=frozen_of_row w B j _ T h
theorem bL.new (w:World) (T:TypeId) (n s:Int):bL (w.alloc (.cells #[.int .i64 n,.int .i64 s] T)) w.heap.size T n s:=heap_alloc_new w _
theorem bL.lt {w:World} {B:Nat} {T:TypeId} {n s:Int} (h:bL w B T n s):B<w.heap.size:=(Array.getElem?_eq_some_iff.1 h).1
theorem bL.below {w w':World} {B N:Nat} {T:TypeId} {n s:Int} (h:bL w B T n s) (hb:Below N w w') (hN:B<N):bL w' B T n s:=(hb.block B hN).trans h
theorem bL.drew {w:World} {B:Nat} {T:TypeId} {n s:Int} (h:bL w B T n s):bL w.drew B T n s:=h
theorem bL.set2 {w:World} {B:Nat} {T:TypeId} {n s:Int} (h:bL w B T n s) (a c:Int):bL ((w.setCell ⟨B,0,none⟩ (.int .i64 a)).setCell ⟨B,1,none⟩ (.int .i64 c)) B T a c:=by
 have h1:(w.setCell ⟨B,0,none⟩ (.int .i64 a)).heap[B]?=some (.cells #[.int .i64 a,.int .i64 s] T (0,0)):=heap_setCell_same w B 0 _ _ _ h;exact heap_setCell_same _ B 1 _ _ _ h1
theorem eV (w:World) (n s:Int):Calls Tryz.prog 77 #[.agg #[.int .i64 n,.int .i64 s]] w fun e w'=>e=.returned (.bool (bF n s))/\Below w.heap.size w w':=by
 have hA:=ae w (.cells #[.int .i64 n,.int .i64 s] 25);obtain ⟨k0,k1⟩:=(bL.new w 25 n s).cells;by_cases h1:3<=n
 . by_cases h2:n<=5
   . by_cases h3:1<=s
     . by_cases h4:s<=8
       . go_enter Tryz.func77,Tryz.ntmps77
         go_wp2
         go_ret
         exact ⟨ag (by symm;rw [aB];omega),hA⟩
       go_enter Tryz.func77,Tryz.ntmps77
       go_wp2
       go_ret
       exact ⟨ag (by symm;rw [←Bool.not_eq_true,aB];omega),hA⟩
     go_enter Tryz.func77,Tryz.ntmps77
     go_wp2
     go_ret
     exact ⟨ag (by symm;rw [←Bool.not_eq_true,aB];omega),hA⟩
   go_enter Tryz.func77,Tryz.ntmps77
   go_wp2
   go_ret
   exact ⟨ag (by symm;rw [←Bool.not_eq_true,aB];omega),hA⟩
 go_enter Tryz.func77,Tryz.ntmps77
 go_wp2
 go_ret
 exact ⟨ag (by symm;rw [←Bool.not_eq_true,aB];omega),hA⟩
theorem dX (w:World) (n s:Int):Calls Tryz.prog 175 #[.agg #[.int .i64 n,.int .i64 s]] w fun e w'=>e=.returned (.bool (bF n s))/\Below w.heap.size w w':=by
 have hA:=ae w (.cells #[.int .i64 n,.int .i64 s] 25);obtain ⟨k0,k1⟩:=(bL.new w 25 n s).cells;by_cases h1:inB n 3 5=true
 . go_enter Tryz.func175,Tryz.ntmps175
   go_wp2_with fail
   refine (aE _ _ _ _).mono ?_
   rintro e w1 ⟨rfl,rfl⟩;go_wp2_with fail
   refine (aE _ _ _ _).mono ?_
   rintro e w1 ⟨rfl,rfl⟩;go_wp2
   go_ret
   exact ⟨ag (by unfold bF;rw [h1];rfl),hA⟩
 have h1:inB n 3 5=false:=by simpa using h1
 go_enter Tryz.func175,Tryz.ntmps175
 go_wp2_with fail
 refine (aE _ _ _ _).mono ?_
 rintro e w1 ⟨rfl,rfl⟩;go_wp2
 go_ret
 exact ⟨ag (by unfold bF;rw [h1];rfl),hA⟩
structure al where
 id:Int
 n:Int
 s:Int
 lost:Int
 vG:Int
 seq:Int
 tail:Int
 gen:Int
 vI:Int
 down:Bool
 vH:Bool
def aM (ms:List ai) (ds:List (Int×List Int)):Nat:=aV ms+bh ds
theorem Box.cells13 {w:World} {B:Nat} {T:TypeId} {v0 v1 v2 v3 v4 v5 v6 v7 v8 v9 v10 v11 v12:Value} (h:Box w B T #[v0,v1,v2,v3,v4,v5,v6,v7,v8,v9,v10,v11,v12]):w.cell? ⟨B,0,none⟩=some v0/\w.cell? ⟨B,1,none⟩=some v1/\w.cell? ⟨B,2,none⟩=some v2/\w.cell? ⟨B,3,none⟩=some v3/\w.cell? ⟨B,4,none⟩=some v4/\w.cell? ⟨B,5,none⟩=some v5/\w.cell? ⟨B,6,none⟩=some v6/\w.cell? ⟨B,7,none⟩=some v7/\w.cell? ⟨B,8,none⟩=some v8/\w.cell? ⟨B,9,none⟩=some v9/\w.cell? ⟨B,10,none⟩=some v10/\w.cell? ⟨B,11,none⟩=some v11/\w.cell? ⟨B,12,none⟩=some v12:=⟨h.cell 0,h.cell 1,h.cell 2,h.cell 3,h.cell 4,h.cell 5,h.cell 6,h.cell 7,h.cell 8,h.cell 9,h.cell 10,h.cell 11,h.cell 12⟩
def bK (w:World) (B:Nat):List (Nat×Value)->World
 | []=>w
 | x :: r=>bK (w.setCell ⟨B,x.1,none⟩ x.2) B r
theorem bN (B:Nat):∀(l:List (Nat×Value)) (w:World),But B (B+1) w (bK w B l)
 | [],_=>But.refl _ _ _
 | _ :: r,_=>(But.setCell (Nat.le_refl _) (Nat.lt_succ_self _) _).trans (bN B r _)
theorem gK {t:Ty} {E:TypeId} {w:World} {g n cap j:Nat} {d:List t.D} {v:Value} {x:t.D} {fp f:List Nat} (ht:t.n=1) (h:(bQ t E).Mine w [.slice (some ⟨g,0,none⟩) n cap] d fp)
 (hj:j<n) (hx:t.Mine w [v] x f) (hdis:∀b∈f,b∉fp):
 (∃old,w.cell? ⟨g,j,none⟩=some old)/\w.frozen? ⟨g,j,none⟩=false/\g∈fp/\∃fp',(bQ t E).Mine (w.setCell ⟨g,j,none⟩ v) [.slice (some ⟨g,0,none⟩) n cap] (d.set j x) fp'/\∀b∈fp',b∈fp∨b∈f:=by
 obtain ⟨h,hn⟩:=h;obtain ⟨hx,hn'⟩:=hx;rcases h with ⟨h1,_⟩|⟨b,cap',cur,fps,h1,h2,h3,h4,h5,h6,h7,h8⟩
 . simp at h1
 simp only [List.cons.injEq,Value.slice.injEq,Option.some.injEq,Addr.mk.injEq,and_true] at h1
 obtain ⟨rfl,rfl,rfl⟩:=h1;have hgp:g∈fp:=by rw [h6];exact List.mem_cons_self
 have hjc:j<cur.size:=by rw [h5,ht];omega
 have hgf':g∉f:=fun hm=>hdis g hm hgp;rw [h6,List.nodup_cons] at hn;obtain ⟨hgf,hnf⟩:=hn;have hd2:∀b∈f,b∉fps.flatten:=fun b hb hbl=>hdis b hb (by rw [h6];exact List.mem_cons_of_mem _ hbl);obtain ⟨hsn,hsm⟩:=gE fps j f hnf hn' hd2;have hoth:∀b,b≠g->(w.setCell ⟨g,j,none⟩ v).heap[b]?=w.heap[b]?:=fun b hb=>Below.heap_setCell _ _ _ _ hb;have hsz:w.heap.size<=(w.setCell ⟨g,j,none⟩ v).heap.size:=by simp
 refine ⟨⟨cur[j],?_⟩,frozen_of_row w g j cur E h4,hgp,g :: (fps.set j f).flatten,⟨.inr ⟨g,cap,cur.setIfInBounds j v,fps.set j f,by rw [List.length_set],by rw [List.length_set];exact h2,h3,heap_setCell_same w g j cur E v h4,by simpa using h5,rfl,by rw [List.length_set,List.length_set];exact h7,fun i y hy=>?_⟩,?_⟩,?_⟩
 . rw [cell_of_row w g j cur E (0,0) h4,Array.getElem?_eq_getElem hjc]
 . by_cases hij:i=j
   . subst hij
     have hyx:y=x:=by
      rw [List.getElem?_set_self (by omega)] at hy;simpa using hy.symm
     subst hyx;refine ⟨f,List.getElem?_set_self (by rw [h7];omega),?_⟩
     have e:((cur.setIfInBounds i v).toList.drop (i*t.n)).take t.n=[v]:=by
      rw [ht,Nat.mul_one,Array.toList_setIfInBounds,List.drop_set,if_neg (by omega),Nat.sub_self,List.drop_eq_getElem_cons (by simpa using hjc),List.set_cons_zero];simp
     rw [e];exact t.owKept hx (fun b hb=>hoth b (fun e=>hgf' (e▸hb))) hsz
   rw [List.getElem?_set_ne (fun e=>hij e.symm)] at hy;obtain ⟨f2,hf,ho⟩:=h8 i y hy;refine ⟨f2,by rw [List.getElem?_set_ne (fun e=>hij e.symm)];exact hf,?_⟩
   have e:((cur.setIfInBounds j v).toList.drop (i*t.n)).take t.n=(cur.toList.drop (i*t.n)).take t.n:=by
    rw [ht,Nat.mul_one,Array.toList_setIfInBounds];apply List.ext_getElem?
    intro k;rw [List.getElem?_take,List.getElem?_take,List.getElem?_drop,List.getElem?_drop];by_cases hk:k<1
    . rw [if_pos hk,if_pos hk,List.getElem?_set_ne (by omega)]
    rw [if_neg hk,if_neg hk]
   rw [e];exact t.owKept ho (fun b hb=>hoth b (fun e'=>hgf (by rw [←e'];exact List.mem_flatten.2 ⟨f2,List.mem_of_getElem? hf,hb⟩))) hsz
 . rw [List.nodup_cons]
   refine ⟨fun hm=>?_,hsn⟩
   rcases hsm g hm with hm|hm
   . exact hgf' hm
   exact hgf hm
 intro b hb;rcases List.mem_cons.1 hb with rfl|hb
 . exact .inl hgp
 rcases hsm b hb with hb|hb
 . exact .inr hb
 exact .inl (by rw [h6];exact List.mem_cons_of_mem _ hb)
theorem ju:∀(fs:List (List Nat)) (i j:Nat) (f f':List Nat),fs.flatten.Nodup->fs[i]?=some f->fs[j]?=some f'->i<j->∀b∈f,b∉f'
 | [],i,_,_,_,_,h,_,_=>by simp at h
 | g :: fs,0,j+1,f,f',hn,hi,hj,_=>by
  simp at hi
  subst hi;rw [List.flatten_cons,List.nodup_append] at hn;intro b hb hb';refine hn.2.2 b hb b (List.mem_flatten.2 ⟨f',List.mem_of_getElem? (i:=j) (by simpa using hj),hb'⟩) rfl
 | g :: fs,i+1,j+1,f,f',hn,hi,hj,hij=>by
  rw [List.flatten_cons,List.nodup_append] at hn;exact ju fs i j f f' hn.2.1 (by simpa using hi) (by simpa using hj) (by omega)
 | g :: fs,i,0,f,f',_,_,_,hij=>by omega
theorem eO {t:Ty} {E:TypeId} {w:World} {g n cap:Nat} {d:List t.D} {fp:List Nat} (h:(bQ t E).Mine w [.slice (some ⟨g,0,none⟩) n cap] d fp):
 g∈fp/\∃F:Nat->List Nat,(∀i x,d[i]?=some x->∃cs,t.Mine w cs x (F i)/\g∉F i/\(∀b∈F i,b∈fp)/\∀k,k<t.n->w.cell? ⟨g,i*t.n+k,none⟩=cs[k]?)/\∀i j,i<j->j<d.length->∀b∈F i,b∉F j:=by
 obtain ⟨h,hn⟩:=h;rcases h with ⟨h1,_⟩|⟨b,cap',cur,fps,h1,h2,h3,h4,h5,h6,h7,h8⟩
 . simp at h1
 simp only [List.cons.injEq,Value.slice.injEq,Option.some.injEq,Addr.mk.injEq,and_true] at h1
 obtain ⟨rfl,rfl,rfl⟩:=h1;rw [h6,List.nodup_cons] at hn;obtain ⟨hgf,hnf⟩:=hn;refine ⟨by rw [h6];exact List.mem_cons_self,fun i=>fps.getD i [],fun i x hx=>?_,fun i j hij hj b hb hb'=>?_⟩
 . obtain ⟨f,hf,ho⟩:=h8 i x hx
   obtain ⟨k1,k2,_⟩:=ez hnf hf;have hgd:fps.getD i []=f:=by rw [List.getD_eq_getElem?_getD,hf];rfl
   simp only [hgd]
   refine ⟨_,⟨ho,k1⟩,fun hm=>hgf (k2 g hm),fun b hb=>by rw [h6];exact List.mem_cons_of_mem _ (k2 b hb),fun k hk=>?_⟩
   rw [cell_of_row w g _ cur E (0,0) h4,List.getElem?_take,if_pos hk,List.getElem?_drop];simp
 have e1:fps[i]?=some (fps.getD i []):=by rw [List.getD_eq_getElem?_getD,List.getElem?_eq_getElem (by omega)];rfl
 have e2:fps[j]?=some (fps.getD j []):=by rw [List.getD_eq_getElem?_getD,List.getElem?_eq_getElem (by omega)];rfl
 exact ju fps i j _ _ hnf e1 e2 hij b hb hb'
def fi (w:World) (g q:Nat) (v0 v1 v2 v3:Value):World:=(((w.setCell ⟨g,q,none⟩ v0).setCell ⟨g,q+1,none⟩ v1).setCell ⟨g,q+2,none⟩ v2).setCell ⟨g,q+3,none⟩ v3
theorem fV {w:World} {g q b:Nat} {v0 v1 v2 v3:Value} (hb:b≠g):(fi w g q v0 v1 v2 v3).heap[b]?=w.heap[b]?:=by
 unfold fi;rw [Below.heap_setCell _ _ _ _ hb,Below.heap_setCell _ _ _ _ hb,Below.heap_setCell _ _ _ _ hb,Below.heap_setCell _ _ _ _ hb]
theorem eP (w:World) (g q:Nat) (v0 v1 v2 v3:Value):(fi w g q v0 v1 v2 v3).heap.size=w.heap.size:=by unfold fi;simp
theorem kQ (w:World) (g q:Nat) (v0 v1 v2 v3:Value):aw [g] w (fi w g q v0 v1 v2 v3):=
 ⟨rfl,rfl,rfl,by rw [eP];exact Nat.le_refl _,fun k _ hk=>fV (by simpa using hk)⟩
theorem tF {t:Ty} {E:TypeId} {w:World} {g n cap j:Nat} {d:List t.D} {v0 v1 v2 v3:Value} {x:t.D} {fp f:List Nat} (ht:t.n=4) (h:(bQ t E).Mine w [.slice (some ⟨g,0,none⟩) n cap] d fp)
 (hj:j<n) (hx:t.Mine w [v0,v1,v2,v3] x f) (hdis:∀b∈f,b∉fp):
 (∀q,q<4->∃old,w.cell? ⟨g,j*4+q,none⟩=some old)/\(∀q,w.frozen? ⟨g,q,none⟩=false)/\g∈fp/\∃fp',(bQ t E).Mine (fi w g (j*4) v0 v1 v2 v3) [.slice (some ⟨g,0,none⟩) n cap] (d.set j x) fp'/\∀b∈fp',b∈fp∨b∈f:=by
 obtain ⟨h,hn⟩:=h;obtain ⟨hx,hn'⟩:=hx;rcases h with ⟨h1,_⟩|⟨b,cap',cur,fps,h1,h2,h3,h4,h5,h6,h7,h8⟩
 . simp at h1
 simp only [List.cons.injEq,Value.slice.injEq,Option.some.injEq,Addr.mk.injEq,and_true] at h1
 obtain ⟨rfl,rfl,rfl⟩:=h1;have hgp:g∈fp:=by rw [h6];exact List.mem_cons_self
 rw [ht] at h5;have hjc:j*4+3<cur.size:=by rw [h5];omega
 have hgf':g∉f:=fun hm=>hdis g hm hgp;rw [h6,List.nodup_cons] at hn;obtain ⟨hgf,hnf⟩:=hn;have hd2:∀b∈f,b∉fps.flatten:=fun b hb hbl=>hdis b hb (by rw [h6];exact List.mem_cons_of_mem _ hbl);obtain ⟨hsn,hsm⟩:=gE fps j f hnf hn' hd2;have hoth:∀b,b≠g->(fi w g (j*4) v0 v1 v2 v3).heap[b]?=w.heap[b]?:=fun b hb=>fV hb;have hsz:w.heap.size<=(fi w g (j*4) v0 v1 v2 v3).heap.size:=by rw [eP];exact Nat.le_refl _
 have hcell:∀k,((((cur.setIfInBounds (j*4) v0).setIfInBounds (j*4+1) v1).setIfInBounds (j*4+2) v2).setIfInBounds (j*4+3) v3).toList[k]?=if j*4<=k/\k<j*4+4 then [v0,v1,v2,v3][k-j*4]? else cur.toList[k]?:=fun k=>by
  rw [Array.toList_setIfInBounds,Array.toList_setIfInBounds,Array.toList_setIfInBounds,Array.toList_setIfInBounds];by_cases h0:k=j*4
  . subst h0
    rw [if_pos (by omega),List.getElem?_set_ne (by omega),List.getElem?_set_ne (by omega),List.getElem?_set_ne (by omega),List.getElem?_set_self (by simp;omega),Nat.sub_self];rfl
  by_cases h1:k=j*4+1
  . subst h1
    rw [if_pos (by omega),List.getElem?_set_ne (by omega),List.getElem?_set_ne (by omega),List.getElem?_set_self (by simp;omega),Nat.add_sub_cancel_left];rfl
  by_cases h2:k=j*4+2
  . subst h2
    rw [if_pos (by omega),List.getElem?_set_ne (by omega),List.getElem?_set_self (by simp;omega),Nat.add_sub_cancel_left];rfl
  by_cases h3:k=j*4+3
  . subst h3
    rw [if_pos (by omega),List.getElem?_set_self (by simp;omega),Nat.add_sub_cancel_left];rfl
  rw [if_neg (by omega),List.getElem?_set_ne (by omega),List.getElem?_set_ne (by omega),List.getElem?_set_ne (by omega),List.getElem?_set_ne (by omega)]
 refine ⟨fun q hq=>⟨cur[j*4+q]'(by omega),?_⟩,fun q=>frozen_of_row w g q cur E h4,hgp,g :: (fps.set j f).flatten,⟨.inr ⟨g,cap,(((cur.setIfInBounds (j*4) v0).setIfInBounds (j*4+1) v1).setIfInBounds (j*4+2) v2).setIfInBounds (j*4+3) v3,fps.set j f,by rw [List.length_set],by rw [List.length_set];exact h2,h3,heap_setCell_same _ g _ _ E v3 (heap_setCell_same _ g _ _ E v2 (heap_setCell_same _ g _ _ E v1 (heap_setCell_same w g _ cur E v0 h4))),by rw [ht];simpa using h5,rfl,by rw [List.length_set,List.length_set];exact h7,fun i y hy=>?_⟩,?_⟩,?_⟩
 . rw [cell_of_row w g _ cur E (0,0) h4,Array.getElem?_eq_getElem]
 . by_cases hij:i=j
   . subst hij
     have hyx:y=x:=by
      rw [List.getElem?_set_self (by omega)] at hy;simpa using hy.symm
     subst hyx;refine ⟨f,List.getElem?_set_self (by rw [h7];omega),?_⟩
     have e:(((((cur.setIfInBounds (i*4) v0).setIfInBounds (i*4+1) v1).setIfInBounds (i*4+2) v2).setIfInBounds (i*4+3) v3).toList.drop (i*t.n)).take t.n=[v0,v1,v2,v3]:=by
      rw [ht];apply List.ext_getElem?
      intro k;rw [List.getElem?_take,List.getElem?_drop,hcell];by_cases hk:k<4
      . rw [if_pos hk,if_pos (by omega),Nat.add_sub_cancel_left]
      rw [if_neg hk,List.getElem?_eq_none (by simp;omega)]
     rw [e];exact t.owKept hx (fun b hb=>hoth b (fun e=>hgf' (e▸hb))) hsz
   rw [List.getElem?_set_ne (fun e=>hij e.symm)] at hy;obtain ⟨f2,hf,ho⟩:=h8 i y hy;refine ⟨f2,by rw [List.getElem?_set_ne (fun e=>hij e.symm)];exact hf,?_⟩
   have e:(((((cur.setIfInBounds (j*4) v0).setIfInBounds (j*4+1) v1).setIfInBounds (j*4+2) v2).setIfInBounds (j*4+3) v3).toList.drop (i*t.n)).take t.n=(cur.toList.drop (i*t.n)).take t.n:=by
    rw [ht];apply List.ext_getElem?
    intro k;rw [List.getElem?_take,List.getElem?_take,List.getElem?_drop,List.getElem?_drop];by_cases hk:k<4
    . rw [if_pos hk,if_pos hk,hcell,if_neg (by omega)]
    rw [if_neg hk,if_neg hk]
   rw [e];exact t.owKept ho (fun b hb=>hoth b (fun e'=>hgf (by rw [←e'];exact List.mem_flatten.2 ⟨f2,List.mem_of_getElem? hf,hb⟩))) hsz
 . rw [List.nodup_cons]
   refine ⟨fun hm=>?_,hsn⟩
   rcases hsm g hm with hm|hm
   . exact hgf' hm
   exact hgf hm
 intro b hb;rcases List.mem_cons.1 hb with rfl|hb
 . exact .inl hgp
 rcases hsm b hb with hb|hb
 . exact .inr hb
 exact .inl (by rw [h6];exact List.mem_cons_of_mem _ hb)
def aC (x:al) (vm vd:Value):Array Value:=#[.int .i64 x.id,.int .i64 x.n,.int .i64 x.s,vm,.int .i64 x.lost,.int .i64 x.vG,.int .i64 x.seq,.int .i64 x.tail,.int .i64 x.gen,vd,.int .i64 x.vI,.bool x.down,.bool x.vH]
def aD (w:World) (B:Nat) (x:al) (ms:List ai) (ds:List (Int×List Int)) (fm fd:List Nat):Prop:=
 ∃(bm bd:Option Addr) (cm cd:Nat),Box w B 29 (aC x (.slice bm ms.length cm) (.slice bd ds.length cd))/\(bt 171 101).Mine w [.slice bm ms.length cm] ms fm/\(aU 90).Mine w [.slice bd ds.length cd] ds fd/\(∀b∈fm,b∉fd)/\B∉fm/\B∉fd
def aJ (B:Nat) (fm:List Nat) (w:World) (fm':List Nat) (w':World):Prop:=aw (B :: fm) w w'/\∀b∈fm',b∈fm∨w.heap.size<=b
theorem aJ.refl (B:Nat) (fm:List Nat) (w:World):aJ B fm w fm w:=⟨aw.refl _ _,fun _ h=>.inl h⟩
theorem aJ.trans {B:Nat} {f1 f2 f3:List Nat} {w1 w2 w3:World} (h:aJ B f1 w1 f2 w2) (k:aJ B f2 w2 f3 w3):aJ B f1 w1 f3 w3:=by
 have hs:=h.1.size;refine ⟨⟨k.1.os.trans h.1.os,k.1.tape.trans h.1.tape,k.1.output.trans h.1.output,Nat.le_trans h.1.size k.1.size,fun b hb hn=>?_⟩,fun b hb=>?_⟩
 . rw [k.1.block b (by omega) (fun hm=>?_),h.1.block b hb hn]
   rcases List.mem_cons.1 hm with e|hm
   . exact hn (by rw [e];exact List.mem_cons_self)
   rcases h.2 b hm with h1|h1
   . exact hn (List.mem_cons_of_mem _ h1)
   omega
 rcases k.2 b hb with h1|h1
 . exact h.2 b h1
 exact .inr (by omega)
theorem aJ.below {B:Nat} {f1 f2:List Nat} {w1 w2 w3:World} (h:aJ B f1 w1 f2 w2) (k:Below w2.heap.size w2 w3):aJ B f1 w1 f2 w3:=
 h.trans ⟨⟨k.os,k.tape,k.output,k.size,fun b hb _=>k.block b hb⟩,fun _ hb=>.inl hb⟩
theorem aJ.drew {B:Nat} {f1 f2:List Nat} {w1 w2:World} (h:aJ B f1 w1 f2 w2):aJ B f1 w1 f2 w2.drew:=h.below ((Below.refl _ _).drew)
theorem aJ.size {B:Nat} {f1 f2:List Nat} {w1 w2:World} (h:aJ B f1 w1 f2 w2):w1.heap.size<=w2.heap.size:=h.1.size
theorem aJ.box {B C:Nat} {f1 f2:List Nat} {w1 w2:World} {T:TypeId} {cs:Array Value} (h:aJ B f1 w1 f2 w2) (x:Box w1 C T cs) (hne:C≠B) (hf:C∉f1):Box w2 C T cs:=x.kept (h.1.block C x.lt (by simp [hne,hf]))
theorem aJ.mine {t:Ty} {B:Nat} {f1 f2 fp:List Nat} {w1 w2:World} {vs:List Value} {d:t.D} (h:aJ B f1 w1 f2 w2) (o:t.Mine w1 vs d fp) (hB:B∉fp) (hd:∀b∈fp,b∉f1):t.Mine w2 vs d fp:=
 o.kept h.1 (fun b hb hm=>by
  rcases List.mem_cons.1 hm with e|hm
  . exact hB (e▸hb)
  exact hd b hb hm)
theorem aJ.set {B j:Nat} {fm:List Nat} {w:World} (v:Value):aJ B fm w fm (w.setCell ⟨B,j,none⟩ v):=⟨aw.setCell v List.mem_cons_self,fun _ h=>.inl h⟩
theorem aD.lt {w:World} {B:Nat} {x:al} {ms:List ai} {ds:List (Int×List Int)} {fm fd:List Nat} (h:aD w B x ms ds fm fd):B<w.heap.size:=by
 obtain ⟨_,_,_,_,hx,_⟩:=h;exact hx.lt
theorem aD.ltm {w:World} {B:Nat} {x:al} {ms:List ai} {ds:List (Int×List Int)} {fm fd:List Nat} (h:aD w B x ms ds fm fd):(∀b∈fm,b<w.heap.size)/\∀b∈fd,b<w.heap.size:=by
 obtain ⟨_,_,_,_,_,hm,hd,_⟩:=h;exact ⟨hm.lt,hd.lt⟩
theorem aD.below {w w':World} {B:Nat} {x:al} {ms:List ai} {ds:List (Int×List Int)} {fm fd:List Nat} (h:aD w B x ms ds fm fd) (hb:Below w.heap.size w w'):aD w' B x ms ds fm fd:=by
 obtain ⟨bm,bd,cm,cd,hx,hm,hd,r⟩:=h;exact ⟨bm,bd,cm,cd,hx.below hb hx.lt,hm.below hb,hd.below hb,r⟩
theorem aD.drew {w:World} {B:Nat} {x:al} {ms:List ai} {ds:List (Int×List Int)} {fm fd:List Nat} (h:aD w B x ms ds fm fd):aD w.drew B x ms ds fm fd:=h.below ((Below.refl _ _).drew)
theorem aD.alloc {w:World} {B:Nat} {x:al} {ms:List ai} {ds:List (Int×List Int)} {fm fd:List Nat} (h:aD w B x ms ds fm fd) (o:Obj):aD (w.alloc o) B x ms ds fm fd:=h.below (ae w o)
theorem aD.kept {w w':World} {B:Nat} {fq:List Nat} {x:al} {ms:List ai} {ds:List (Int×List Int)} {fm fd:List Nat} (h:aD w B x ms ds fm fd) (ht:aw fq w w') (h0:B∉fq) (h1:∀b∈fm,b∉fq) (h2:∀b∈fd,b∉fq):aD w' B x ms ds fm fd:=by
 obtain ⟨bm,bd,cm,cd,hx,hm,hd,r⟩:=h;exact ⟨bm,bd,cm,cd,hx.kept (ht.block B hx.lt h0),hm.kept ht h1,hd.kept ht h2,r⟩
theorem bU {t:Ty} {E:TypeId} {w:World} {a:Option Addr} {n cap:Nat} {d:List t.D} {fp:List Nat} (h:(bQ t E).Mine w [.slice a n cap] d fp) (hn:0<n):∃g,a=some ⟨g,0,none⟩:=by
 obtain ⟨h,_⟩:=h;rcases h with ⟨h1,_⟩|⟨b,cap',cur,fps,h1,_⟩
 . simp at h1
   omega
 simp at h1
 exact ⟨b,h1.1⟩
theorem dM {w:World} {E F:TypeId} {g n cap j:Nat} {ms:List ai} {d:ai} {fp:List Nat} (h:(bt E F).Mine w [.slice (some ⟨g,0,none⟩) n cap] ms fp) (hj:ms[j]?=some d):
 g<w.heap.size/\∃(a0 a1 a3:Option Addr) (c0 c1 c3:Nat) (ss:List (List Int)) (cs:List (Int×List Int)) (f:Bool) (bs:List Int),d=(ss,cs,f,bs)/\w.cell? ⟨g,j*4,none⟩=some (.slice a0 ss.length c0)/\w.cell? ⟨g,j*4+1,none⟩=some (.slice a1 cs.length c1)/\w.cell? ⟨g,j*4+2,none⟩=some (.bool f)/\w.cell? ⟨g,j*4+3,none⟩=some (.slice a3 bs.length c3) /\
  aT.Rd w [.slice a0 ss.length c0] ss/\(aU E).Rd w [.slice a1 cs.length c1] cs/\aA.Rd w [.slice a3 bs.length c3] bs:=by
 have hjl:=(List.getElem?_eq_some_iff.1 hj).1;have hl:=(af h.rd).1;rcases dW rfl h.rd with h0|⟨b,off,hbo,hbl,hcs⟩
 . omega
 simp at hbo
 obtain ⟨rfl,rfl⟩:=hbo;obtain ⟨v0,v1,v2,v3,hv0,hv1,hv2,hv3,hrv⟩:=hcs j d hj;obtain ⟨a0,c0,a1,c1,a3,c3,ss,cs,f,bs,rfl,rfl,rfl,rfl,rfl,r0,r1,r3⟩:=fR hrv;rw [Nat.zero_add] at hv0 hv1 hv2 hv3;exact ⟨hbl,a0,a1,a3,c0,c1,c3,ss,cs,f,bs,rfl,hv0,hv1,hv2,hv3,r0,r1,r3⟩
theorem eu {w1 w3:World} {B g cm cd m:Nat} {bd:Option Addr} {x:al} {ms:List ai} {ds:List (Int×List Int)} {fm fd fpx:List Nat} {d:ai} {u0 u1 u2 u3:Value} (X:Box w1 B 29 (aC x (.slice (some ⟨g,0,none⟩) ms.length cm) (.slice bd ds.length cd))) (hm:(bt 171 101).Mine w1 [.slice (some ⟨g,0,none⟩) ms.length cm] ms fm) (hd:(aU 90).Mine w1 [.slice bd ds.length cd] ds fd) (hr:∀b∈fm,b∉fd) (r1:B∉fm) (r2:B∉fd)
 (hb:Below w1.heap.size w1 w3) (hj:m<ms.length) (hx:(bR 171).Mine w3 [u0,u1,u2,u3] d fpx) (hx2:∀b∈fpx,w1.heap.size<=b):
 (∀q,q<4->∃old,w3.cell? ⟨g,m*4+q,none⟩=some old)/\(∀q,w3.frozen? ⟨g,q,none⟩=false)/\g∈fm/\∃fm',aD (fi w3 g (m*4) u0 u1 u2 u3) B x (ms.set m d) ds fm' fd/\aJ B fm w1 fm' (fi w3 g (m*4) u0 u1 u2 u3):=by
 have hlm:=hm.lt;have hld:=hd.lt;have hlB:=X.lt;obtain ⟨c,z,hg,fm',mA,rA⟩:=tF (j:=m) rfl (hm.below hb) hj hx (fun b hb' hm'=>by have h1:=hx2 b hb';have h2:=hlm b hm';omega);have ht:=kQ w3 g (m*4) u0 u1 u2 u3;have hgB:B≠g:=fun e=>r1 (e▸hg);have hgd:∀b∈fd,b∉[g]:=fun b hb' hm'=>by simp at hm';exact hr g hg (hm'▸hb')
 refine ⟨c,z,hg,fm',⟨some ⟨g,0,none⟩,bd,cm,cd,?_,?_,(hd.below hb).kept ht hgd,?_,?_,r2⟩,⟨⟨hb.os,hb.tape,hb.output,by rw [eP];exact hb.size,fun b hb' hn=>?_⟩,fun b hb'=>?_⟩⟩
 . rw [List.length_set]
   exact (X.below hb hlB).kept (ht.block B (Nat.lt_of_lt_of_le hlB hb.size) (by simpa using hgB))
 . rw [List.length_set]
   exact mA
 . intro b hb' hm'
   rcases rA b hb' with h|h
   . exact hr b h hm'
   have h1:=hx2 b h;have h2:=hld b hm';omega
 . intro hm'
   rcases rA B hm' with h|h
   . exact r1 h
   have:=hx2 B h;omega
 . rw [fV (fun e=>hn (by rw [e];exact List.mem_cons_of_mem _ hg)),hb.block b hb']
 rcases rA b hb' with h|h
 . exact .inl h
 exact .inr (hx2 b h)
theorem vg {α:Type} [Inhabited α] {P:Nat->α->Prop} {n:Nat} (h:∀i,i<n->∃x,P i x):∃f:Nat->α,∀i,i<n->P i (f i):=by
 refine ⟨fun i=>if hi:i<n then Classical.choose (h i hi) else default,fun i hi=>?_⟩
 dsimp only
 rw [dif_pos hi];exact Classical.choose_spec (h i hi)
theorem qI {t:Ty} {E:TypeId} {w:World} {g n cap lo hi:Nat} {d:List t.D} (hl:d.length=n) (hc:n<=cap) (hm:cap<=9223372036854775807) (hg:lo<=g/\g<hi) (hz:g<w.heap.size)
 (each:∀i x,d[i]?=some x->∃cs f,t.rd w cs x f/\(∀b∈f,lo<=b/\b<hi)/\∀k,k<t.n->w.cell? ⟨g,i*t.n+k,none⟩=cs[k]?):(bQ t E).In w lo hi [.slice (some ⟨g,0,none⟩) n cap] d:=by
 subst hl;obtain ⟨F,hF⟩:=vg (n:=d.length) (P:=fun i f=>∀x,d[i]?=some x->∃cs,t.rd w cs x f/\(∀b∈f,lo<=b/\b<hi)/\∀k,k<t.n->w.cell? ⟨g,i*t.n+k,none⟩=cs[k]?) (fun i hi'=>by
  obtain ⟨cs,f,h1,h2,h3⟩:=each i _ (List.getElem?_eq_getElem hi');exact ⟨f,fun x hx=>by
   rw [List.getElem?_eq_getElem hi'] at hx;cases hx;exact ⟨cs,h1,h2,h3⟩⟩)
 refine ⟨g :: ((List.range d.length).map F).flatten,⟨_,cap,rfl,hc,hm,.inr ⟨g,0,(List.range d.length).map F,rfl,hz,rfl,by simp,fun i x hx=>?_⟩⟩,fun b hb=>?_⟩
 . have hil:=(List.getElem?_eq_some_iff.1 hx).1
   obtain ⟨cs,h1,_,h3⟩:=hF i hil x hx;refine ⟨F i,cs,by simp [hil],h1,fun j hj=>?_⟩
   rw [Nat.zero_add];exact h3 j hj
 rcases List.mem_cons.1 hb with rfl|hb
 . exact hg
 obtain ⟨f,hf,hbf⟩:=List.mem_flatten.1 hb;obtain ⟨i,hi',rfl⟩:=List.mem_map.1 hf;have hil:i<d.length:=by simpa using hi'
 obtain ⟨_,_,h2,_⟩:=hF i hil _ (List.getElem?_eq_getElem hil);exact h2 b hbf
theorem tG {E:TypeId} {w:World} {lo hi:Nat} {v0 v1 v3:Value} {f:Bool} {ss:List (List Int)} {cs:List (Int×List Int)} {bs:List Int} (h0:aT.In w lo hi [v0] ss) (h1:(aU E).In w lo hi [v1] cs) (h3:aA.In w lo hi [v3] bs):(bR E).In w lo hi [v0,v1,.bool f,v3] (ss,cs,f,bs):=by
 obtain ⟨f0,r0,k0⟩:=h0;obtain ⟨f1,r1,k1⟩:=h1;obtain ⟨f3,r3,k3⟩:=h3;refine ⟨f0++(f1++([]++f3)),⟨f0,f1++([]++f3),rfl,r0,⟨f1,[]++f3,rfl,r1,⟨[],f3,rfl,⟨rfl,rfl⟩,r3,rfl⟩,rfl⟩,rfl⟩,fun b hb=>?_⟩
 rcases List.mem_append.1 hb with hb|hb
 . exact k0 b hb
 rcases List.mem_append.1 hb with hb|hb
 . exact k1 b hb
 exact k3 b (by simpa using hb)
theorem tH {E F:TypeId} {w:World} {g n cap j lo hi l h':Nat} {ms:List ai} {fm:List Nat} {v0 v1 v2 v3:Value} {x:ai} (hM:(bt E F).Mine w [.slice (some ⟨g,0,none⟩) n cap] ms fm) (hj:j<n) (hx:(bR E).In w l h' [v0,v1,v2,v3] x) (hg:g<l∨h'<=g) (hr:∀b∈fm,lo<=b/\b<hi) (h1:lo<=l) (h2:h'<=hi):
 (∀q,q<4->∃old,w.cell? ⟨g,j*4+q,none⟩=some old)/\(∀q,w.frozen? ⟨g,q,none⟩=false)/\(bt E F).In (fi w g (j*4) v0 v1 v2 v3) lo hi [.slice (some ⟨g,0,none⟩) n cap] (ms.set j x):=by
 obtain ⟨hl,hc,hm⟩:=af hM.rd;have hjl:ms[j]?=some (ms[j]'(by omega)):=List.getElem?_eq_getElem (by omega);obtain ⟨hgf,PF,hP,_⟩:=eO hM;obtain ⟨cs0,f0,m0,n0,_,s0,c0,fz0,_⟩:=pD hM hjl;have hgz:=hM.lt g hgf;have l0:=(bR E).rdLen ((bR E).owRd m0.1);have hcell:∀q,q<4->∃old,w.cell? ⟨g,j*4+q,none⟩=some old:=fun q hq=>by
  have:=c0 q hq;have hl4:q<cs0.length:=by rw [l0];exact hq
  exact ⟨cs0[q],by rw [show j*4+q=j*(bR E).n+q from rfl,this];exact List.getElem?_eq_getElem hl4⟩
 refine ⟨hcell,fz0,qI (by simpa using hl) hc hm (hr g hgf) (by rw [eP];exact hgz) (fun i y hy=>?_)⟩
 by_cases hij:i=j
 . subst hij
   have hyx:y=x:=by
    rw [List.getElem?_set_self (by omega)] at hy;simpa using hy.symm
   subst hyx;obtain ⟨f,r,k⟩:=hx;have hne:∀b∈f,b≠g:=fun b hb e=>by have:=k b hb;clear r;omega
   have hin:∀b∈f,lo<=b/\b<hi:=fun b hb=>by have:=k b hb;clear r;omega
   refine ⟨[v0,v1,v2,v3],f,(bR E).rdKept r (fun b hb=>fV (hne b hb)) (by rw [eP];exact Nat.le_refl _),hin,fun q hq=>?_⟩
   have hq:q<4:=hq;obtain ⟨o0,e0⟩:=hcell 0 (by omega);obtain ⟨o1,e1⟩:=hcell 1 (by omega);obtain ⟨o2,e2⟩:=hcell 2 (by omega);obtain ⟨o3,e3⟩:=hcell 3 (by omega);rw [Nat.add_zero] at e0;unfold fi;show World.cell? _ ⟨g,i*4+q,none⟩=_
   match q,hq with
   | 0,_=>go_simp
   | 1,_=>go_simp
   | 2,_=>go_simp
   | 3,_=>go_simp
 rw [List.getElem?_set_ne (fun e=>hij e.symm)] at hy;obtain ⟨cs,m,ng,sub,c⟩:=hP i y hy;refine ⟨cs,PF i,(bR E).rdKept ((bR E).owRd m.1) (fun b hb=>fV (fun e=>ng (e▸hb))) (by rw [eP];exact Nat.le_refl _),fun b hb=>hr b (sub b hb),fun q hq=>?_⟩
 have hq:q<4:=hq;rw [←c q hq];unfold fi;show World.cell? _ ⟨g,i*4+q,none⟩=w.cell? ⟨g,i*4+q,none⟩
 have n0:¬i*4+q=j*4:=by omega
 have n1:¬i*4+q=j*4+1:=by omega
 have n2:¬i*4+q=j*4+2:=by omega
 have n3:¬i*4+q=j*4+3:=by omega
 go_simp
theorem tI {w:World} {gs n cap q lo hi l h':Nat} {ss:List (List Int)} {fs:List Nat} {v:Value} {z:List Int} (hM:aT.Mine w [.slice (some ⟨gs,0,none⟩) n cap] ss fs) (hq:q<n) (hx:aA.In w l h' [v] z) (hg:gs<l∨h'<=gs) (hr:∀b∈fs,lo<=b/\b<hi) (h1:lo<=l) (h2:h'<=hi):
 (∃old,w.cell? ⟨gs,q,none⟩=some old)/\w.frozen? ⟨gs,q,none⟩=false/\gs∈fs/\aT.In (w.setCell ⟨gs,q,none⟩ v) lo hi [.slice (some ⟨gs,0,none⟩) n cap] (ss.set q z):=by
 obtain ⟨hl,hc,hm⟩:=af hM.rd;have hjl:ss[q]?=some (ss[q]'(by omega)):=List.getElem?_eq_getElem (by omega);obtain ⟨hgf,PF,hP,_⟩:=eO hM;obtain ⟨cs0,f0,m0,n0,_,s0,c0,fz0,_⟩:=pD hM hjl;have hgz:=hM.lt gs hgf;have l0:=aA.rdLen (aA.owRd m0.1);have hone:∃old,w.cell? ⟨gs,q,none⟩=some old:=by
  have:=c0 0 (by decide);have hl1:0<cs0.length:=by rw [l0];decide
  refine ⟨cs0[0],?_⟩
  rw [show q=q*aA.n+0 from by show q=q*1+0;omega,this];exact List.getElem?_eq_getElem hl1
 refine ⟨hone,fz0 q,hgf,qI (by simpa using hl) hc hm (hr gs hgf) (by simp;exact hgz) (fun i y hy=>?_)⟩
 by_cases hij:i=q
 . subst hij
   have hyx:y=z:=by
    rw [List.getElem?_set_self (by omega)] at hy;simpa using hy.symm
   subst hyx;obtain ⟨f,r,k⟩:=hx;have hne:∀b∈f,b≠gs:=fun b hb e=>by have:=k b hb;clear r;omega
   have hin:∀b∈f,lo<=b/\b<hi:=fun b hb=>by have:=k b hb;clear r;omega
   refine ⟨[v],f,aA.rdKept r (fun b hb=>Below.heap_setCell _ _ _ _ (hne b hb)) (by simp),hin,fun k' hk=>?_⟩
   have hk:k'=0:=by have:k'<1:=hk;omega
   subst hk;obtain ⟨old,ho⟩:=hone;show World.cell? _ ⟨gs,i*1+0,none⟩=_
   rw [show i*1+0=i from by omega];go_simp
 rw [List.getElem?_set_ne (fun e=>hij e.symm)] at hy;obtain ⟨cs,m,ng,sub,c⟩:=hP i y hy;refine ⟨cs,PF i,aA.rdKept (aA.owRd m.1) (fun b hb=>Below.heap_setCell _ _ _ _ (fun (e:b=gs)=>ng (e▸hb))) (by simp),fun b hb=>hr b (sub b hb),fun k' hk=>?_⟩
 have hk0:k'=0:=by have:k'<1:=hk;omega
 subst hk0;rw [←c 0 hk];show World.cell? _ ⟨gs,i*1+0,none⟩=w.cell? ⟨gs,i*1+0,none⟩
 rw [show i*1+0=i from by omega];go_simp
theorem tJ {E F:TypeId} {w:World} {g n cap j q lo hi l h':Nat} {ms:List ai} {fm:List Nat} {ss:List (List Int)} {cs:List (Int×List Int)} {f:Bool} {bs:List Int} {v:Value} {z:List Int} (hM:(bt E F).Mine w [.slice (some ⟨g,0,none⟩) n cap] ms fm) (hj:ms[j]?=some (ss,cs,f,bs)) (hq:q<ss.length) (hz:aA.In w l h' [v] z) (hsep:∀b∈fm,b<l∨h'<=b) (hr:∀b∈fm,lo<=b/\b<hi) (h1:lo<=l) (h2:h'<=hi):
 ∃gs c0,w.cell? ⟨g,j*4,none⟩=some (.slice (some ⟨gs,0,none⟩) ss.length c0)/\gs∈fm/\gs≠g/\(∃old,w.cell? ⟨gs,q,none⟩=some old)/\w.frozen? ⟨gs,q,none⟩=false/\(bt E F).In (w.setCell ⟨gs,q,none⟩ v) lo hi [.slice (some ⟨g,0,none⟩) n cap] (ms.set j (ss.set q z,cs,f,bs)):=by
 obtain ⟨hl,hc,hm⟩:=af hM.rd;have hjl:=(List.getElem?_eq_some_iff.1 hj).1;obtain ⟨hgf,PF,hP,hD⟩:=eO hM;have hgz:=hM.lt g hgf;obtain ⟨cs0,m0,ng0,sub0,c0⟩:=hP j _ hj;have l0:=(bR E).rdLen ((bR E).owRd m0.1);obtain ⟨v0,v1,v2,v3,rfl⟩:∃v0 v1 v2 v3,cs0=[v0,v1,v2,v3]:=by
  match cs0,l0 with
  | [v0,v1,v2,v3],_=>exact ⟨v0,v1,v2,v3,rfl⟩
 obtain ⟨a0,k0,a1,k1,a3,k3,ss',cs',f',bs',hxx,rfl,rfl,rfl,rfl,_,_,_⟩:=fR m0.rd;obtain ⟨rfl,rfl,rfl,rfl⟩:ss=ss'/\cs=cs'/\f=f'/\bs=bs':=by simpa using hxx
 obtain ⟨f0,g1,hF,p0,m1,d0⟩:=et (t:=aT) (u:=dU (aU E) (dU fy aA)) (vs:=[_]) (us:=[_,_,_]) rfl m0;obtain ⟨f1,g2,rfl,p1,m2,d1⟩:=et (t:=aU E) (u:=dU fy aA) (vs:=[_]) (us:=[_,_]) rfl m1;obtain ⟨f2,f3,rfl,_,p3,d2⟩:=et (t:=fy) (u:=aA) (vs:=[_]) (us:=[_]) rfl m2;obtain ⟨gs,rfl⟩:=bU p0 (by omega);have s0:∀b∈f0,b∈PF j:=fun b hb=>by rw [hF];exact List.mem_append.2 (.inl hb)
 have s1:∀b∈f1,b∈PF j:=fun b hb=>by rw [hF];exact List.mem_append.2 (.inr (List.mem_append.2 (.inl hb)))
 have s3:∀b∈f3,b∈PF j:=fun b hb=>by rw [hF];exact List.mem_append.2 (.inr (List.mem_append.2 (.inr (List.mem_append.2 (.inr hb)))))
 have hrj:∀b∈PF j,lo<=b/\b<hi:=fun b hb=>hr b (sub0 b hb);obtain ⟨q1,_⟩:=eO p0;have hgs:gs∈PF j:=s0 gs q1;obtain ⟨e1,e2,_,e4⟩:=tI p0 hq hz (hsep gs (sub0 gs hgs)) (fun b hb=>hrj b (s0 b hb)) h1 h2;have n1:gs∉f1:=fun hm=>d0 gs q1 (List.mem_append.2 (.inl hm));have n3:gs∉f3:=fun hm=>d0 gs q1 (List.mem_append.2 (.inr (List.mem_append.2 (.inr hm))));have c1:=(p1.setCell (g:=gs) (j:=q) n1 v).toIn (lo:=lo) (hi:=hi) (fun b hb=>hrj b (s1 b hb));have c3:=(p3.setCell (g:=gs) (j:=q) n3 v).toIn (lo:=lo) (hi:=hi) (fun b hb=>hrj b (s3 b hb));have hx:(bR E).In (w.setCell ⟨gs,q,none⟩ v) lo hi [.slice (some ⟨gs,0,none⟩) ss.length k0,.slice a1 cs.length k1,.bool f,.slice a3 bs.length k3] (ss.set q z,cs,f,bs):=tG e4 c1 c3;have hgg:gs≠g:=fun e=>ng0 (e▸hgs);refine ⟨gs,k0,c0 0 (show 0<4 by decide),sub0 gs hgs,hgg,e1,e2,qI (by simpa using hl) hc hm (hr g hgf) (by simp;exact hgz) (fun i y hy=>?_)⟩
 have hcell:∀p,(w.setCell ⟨gs,q,none⟩ v).cell? ⟨g,p,none⟩=w.cell? ⟨g,p,none⟩:=fun p=>World.cell?_of_block (w:=w) (Below.heap_setCell _ _ _ _ (fun (e:g=gs)=>hgg e.symm));by_cases hij:i=j
 . subst hij
   have hyx:y=(ss.set q z,cs,f,bs):=by
    rw [List.getElem?_set_self (by omega)] at hy;simpa using hy.symm
   subst hyx;obtain ⟨ff,r,k⟩:=hx;exact ⟨_,ff,r,k,fun p hp=>(hcell _).trans (c0 p hp)⟩
 rw [List.getElem?_set_ne (fun e=>hij e.symm)] at hy;obtain ⟨csi,mi,_,subi,ci⟩:=hP i y hy;have hil:=(List.getElem?_eq_some_iff.1 hy).1;have hni:gs∉PF i:=fun hm=>by
  rcases Nat.lt_or_gt_of_ne hij with h|h
  . exact hD i j h hjl gs hm hgs
  exact hD j i h hil gs hgs hm
 exact ⟨csi,PF i,(bR E).rdKept ((bR E).owRd mi.1) (fun b hb=>Below.heap_setCell _ _ _ _ (fun (e:b=gs)=>hni (e▸hb))) (by simp),fun b hb=>hr b (subi b hb),fun p hp=>(hcell _).trans (ci p hp)⟩
def at8 (ds:List (Int×List Int)) (s:Int):Int:=
 match ds.findIdx? (fun e=>decide (e.1=s)) with
 | some i=>(i:Int)
 | none=>-1
theorem se {ds:List (Int×List Int)} {s:Int} {j:Nat} {e:Int×List Int} (hj:ds[j]?=some e) (he:e.1=s) (hb:∀i e',i<j->ds[i]?=some e'->¬e'.1=s):at8 ds s=(j:Int):=by
 have hl:=(List.getElem?_eq_some_iff.1 hj).1;have:ds.findIdx? (fun e=>decide (e.1=s))=some j:=by
  rw [List.findIdx?_eq_some_iff_getElem];refine ⟨hl,?_,fun i hi=>?_⟩
  . have:ds[j]=e:=by rw [List.getElem?_eq_getElem hl] at hj;simpa using hj
    rw [this];simpa using he
  have:=hb i ds[i] hi (List.getElem?_eq_getElem (by omega));simpa using this
 unfold at8;rw [this]
theorem tK {ds:List (Int×List Int)} {s:Int} (hb:∀i e',i<ds.length->ds[i]?=some e'->¬e'.1=s):at8 ds s=-1:=by
 have:ds.findIdx? (fun e=>decide (e.1=s))=none:=by
  rw [List.findIdx?_eq_none_iff];intro e he;obtain ⟨i,hi⟩:=List.mem_iff_getElem?.1 he;have:=hb i e (List.getElem?_eq_some_iff.1 hi).1 hi;simpa using this
 unfold at8;rw [this]
theorem gL (ds:List (Int×List Int)) (s:Int):at8 ds s=-1∨∃(j:Nat) (e:Int×List Int),at8 ds s=(j:Int)/\ds[j]?=some e/\e.1=s:=by
 unfold at8;cases h:ds.findIdx? (fun e=>decide (e.1=s)) with
 | none=>exact .inl rfl
 | some i=>
  rw [List.findIdx?_eq_some_iff_getElem] at h;obtain ⟨hl,hp,_⟩:=h;exact .inr ⟨i,ds[i],rfl,List.getElem?_eq_getElem hl,by simpa using hp⟩
theorem pE (w:World) (G:TypeId) (x:al) (am ad:Option Addr) (nm cm nd cd:Nat) (ds:List (Int×List Int)) (s:Int) (h1:(aU G).Rd w [.slice ad nd cd] ds) (hn:nd<=2097152):
 Calls Tryz.prog 184 #[.agg #[.int .i64 x.id,.int .i64 x.n,.int .i64 x.s,.slice am nm cm,.int .i64 x.lost,.int .i64 x.vG,.int .i64 x.seq,.int .i64 x.tail,.int .i64 x.gen,.slice ad nd cd,.int .i64 x.vI,.bool x.down,.bool x.vH],.int .i64 s] w fun e w'=>e=.returned (.int .i64 (at8 ds s))/\Below w.heap.size w w':=by
 obtain ⟨hl,_,_⟩:=af h1;have hA:=ae w (.cells #[.int .i64 x.id,.int .i64 x.n,.int .i64 x.s,.slice am nm cm,.int .i64 x.lost,.int .i64 x.vG,.int .i64 x.seq,.int .i64 x.tail,.int .i64 x.gen,.slice ad nd cd,.int .i64 x.vI,.bool x.down,.bool x.vH] 29);have X:=Box.new w 29 #[.int .i64 x.id,.int .i64 x.n,.int .i64 x.s,.slice am nm cm,.int .i64 x.lost,.int .i64 x.vG,.int .i64 x.seq,.int .i64 x.tail,.int .i64 x.gen,.slice ad nd cd,.int .i64 x.vI,.bool x.down,.bool x.vH];have zX:=X.lt;have c9:(w.alloc (.cells #[.int .i64 x.id,.int .i64 x.n,.int .i64 x.s,.slice am nm cm,.int .i64 x.lost,.int .i64 x.vG,.int .i64 x.seq,.int .i64 x.tail,.int .i64 x.gen,.slice ad nd cd,.int .i64 x.vI,.bool x.down,.bool x.vH] 29)).cell? ⟨w.heap.size,9,none⟩=some (.slice ad nd cd):=X.cell 9;have HA:=aa hA;go_enter Tryz.func184,Tryz.ntmps184
 go_wp2
 generalize w.alloc (.cells #[.int .i64 x.id,.int .i64 x.n,.int .i64 x.s,.slice am nm cm,.int .i64 x.lost,.int .i64 x.vG,.int .i64 x.seq,.int .i64 x.tail,.int .i64 x.gen,.slice ad nd cd,.int .i64 x.vI,.bool x.down,.bool x.vH] 29)=W at hA X zX c9 HA ⊢;go_loopw [5] (fun i wr=>∃j:Nat,j<=nd/\i=.int .i64 j/\(∀i e',i<j->ds[i]?=some e'->¬e'.1=s)/\wr=W) (fun i _=>nd-(intOf i).toNat)
 case atStart=>exact ⟨0,Nat.zero_le _,rfl,fun i _ h=>absurd h (by omega),rfl⟩
 obtain ⟨j,hj,rfl,hb,hw⟩:=hrel;subst hw;by_cases hjn:j<nd
 . rcases cY rfl (h1.below hA) with h0|⟨b,off,rfl,hbl,hcs⟩
   . omega
   have hdj:ds[j]?=some (ds[j]'(by omega)):=List.getElem?_eq_getElem (by omega);generalize ds[j]'(by omega)=d at hdj;obtain ⟨u0,u1,hv0,hv1,hrv⟩:=hcs j d hdj;obtain ⟨rfl,_⟩:=eI hrv;have k1:(0:Int)<=(j:Int):=by omega
   have k2:(j:Int)<(nd:Int):=by omega
   have HBB:=aa hb;have HDJ:=aa hdj;obtain ⟨y,ys⟩:=d;simp only at hv0
   clear hcs hrv hv1 hb hdj;by_cases he:y=s
   . have HV:=aa (se (s:=s) HDJ.out he HBB.out)
     have e1:(y==s)=true:=by simpa using he
     clear he;go_wp2
     go_ret
     exact ⟨aG HV.out.symm,HA.out⟩
   have e1:(y==s)=false:=by simpa using he
   have HN:Hid (∀i e',i<j+1->ds[i]?=some e'->¬e'.1=s):=fun i e' hi h'=>by
    by_cases hij:i=j
    . subst hij
      rw [HDJ.out] at h';simp at h'
      rw [←h'];exact he
    exact HBB.out i e' (by omega) h'
   clear he;go_wp2
   go_roundw
   case rel=>exact ⟨j+1,by omega,by go_num,HN.out,by first|rfl|trivial⟩
   case measure=>simp [intOf];omega
 have ej:j=nd:=by omega
 subst ej;have HV:=aa (tK (s:=s) (fun i e' h h'=>hb i e' (by omega) h'));have k2:¬(j:Int)<(j:Int):=by omega
 go_wp2
 go_ret
 exact ⟨aG HV.out.symm,HA.out⟩
end Go.Proofs.YtejeekndbnpmoaaGreat
