/-
 A disk of one's own that is stored into the result's block: a plain lemma. No condition.
-/
import Derived.Test.YtejokiafgbjdaaaGreatRowFailsBentSq2
import Derived.Maps.Own
import Derived.Maps.OwnSet
import Derived.Maps.OwnOps
import Derived.Maps.Views

set_option maxRecDepth 100000
set_option maxHeartbeats 8000000
set_option linter.unusedSimpArgs false

namespace Go.Proofs.YtejokiafgbjdaaaGreat
open Go.RowKit

structure Fr (N B:Nat) (w w':World):Prop where
 os:w'.os=w.os
 tape:w'.tape=w.tape
 output:w'.output=w.output
 size:w.heap.size<=w'.heap.size
 block:∀k,k<N->k≠B->w'.heap[k]?=w.heap[k]?
theorem Fr.refl (N B:Nat) (w:World):Fr N B w w:=⟨rfl,rfl,rfl,Nat.le_refl _,fun _ _ _=>rfl⟩
theorem Fr.trans {N B:Nat} {a b c:World} (h:Fr N B a b) (k:Fr N B b c):Fr N B a c:=
 ⟨k.os.trans h.os,k.tape.trans h.tape,k.output.trans h.output,Nat.le_trans h.size k.size,fun i hi ho=>(k.block i hi ho).trans (h.block i hi ho)⟩
theorem Fr.box {N B C:Nat} {w w':World} {T:TypeId} {cs:Array Value} (h:Fr N B w w') (x:Box w C T cs) (hC:C<N) (hne:C≠B):Box w' C T cs:=x.kept (h.block C hC hne)
theorem Fr.below {N B M:Nat} {w w':World} (h:Fr N B w w') (h1:M<=N) (h2:M<=B):Below M w w':=⟨h.os,h.tape,h.output,h.size,fun k hk=>h.block k (by omega) (by omega)⟩
theorem Fr.own {t:Ty} {N B lo hi:Nat} {w w':World} {vs:List Value} {d:t.D} (h:Fr N B w w') (o:t.Own w lo hi vs d) (h1:hi<=N) (h2:hi<=B∨B<lo):t.Own w' lo hi vs d:=by
 obtain ⟨fp,k1,k2,k3⟩:=o;exact ⟨fp,t.owKept k1 (fun b hb=>h.block b (by have:=k3 b hb;omega) (by have:=k3 b hb;omega)) h.size,k2,k3⟩
theorem Fr.ofBelow {N B:Nat} {w w':World} (h:Below w.heap.size w w') (hN:N<=w.heap.size):Fr N B w w':=⟨h.os,h.tape,h.output,h.size,fun k hk _=>h.block k (by omega)⟩
theorem Fr.ofTurned {N B:Nat} {w w':World} {fp:List Nat} (h:aq fp w w') (hN:N<=w.heap.size) (hf:∀b∈fp,N<=b):Fr N B w w':=
 ⟨h.os,h.tape,h.output,h.size,fun k hk _=>h.block k (by omega) (fun hm=>by have:=hf k hm;omega)⟩
theorem Fr.ofSet {N B:Nat} (w:World) (j:Nat) (v:Value):Fr N B w (w.setCell ⟨B,j,none⟩ v):=⟨rfl,rfl,rfl,by simp [World.setCell],fun k _ hk=>Below.heap_setCell _ _ _ _ (by simpa using hk)⟩
theorem Fr.mine {t:Ty} {N B:Nat} {w w':World} {vs:List Value} {d:t.D} {fp:List Nat} (h:Fr N B w w') (o:t.Mine w vs d fp) (h1:∀b∈fp,b<N/\b≠B):t.Mine w' vs d fp:=⟨t.owKept o.1 (fun b hb=>h.block b (h1 b hb).1 (h1 b hb).2) h.size,o.2⟩
theorem Ty.Mine.but {t:Ty} {w w':World} {lo hi:Nat} {vs:List Value} {d:t.D} {fp:List Nat} (h:t.Mine w vs d fp) (hb:But lo hi w w') (hd:∀b∈fp,b<lo∨hi<=b):t.Mine w' vs d fp:=⟨t.owKept h.1 (fun b hm=>hb.block b (h.lt b hm) (by have:=hd b hm;omega)) hb.size,h.2⟩
theorem Fr.round {N B:Nat} {w wr wc wA:World} {fp:List Nat} (h:Fr N B w wr) (hN:N<=wr.heap.size) (hc:Below wr.heap.size wr wc) (o:Obj) (ht:aq fp (wc.alloc o) wA) (hf:∀b∈fp,N<=b) (j:Nat) (v:Value):Fr N B w (wA.setCell ⟨B,j,none⟩ v):=by
 have h1:=hc.size;have h2:(wc.alloc o).heap.size=wc.heap.size+1:=by simp
 exact ((h.trans (Fr.ofBelow (Below.andThen hc ((Below.refl _ _).alloc (Nat.le_refl _) o)) hN)).trans (Fr.ofTurned ht (by omega) hf)).trans (Fr.ofSet _ _ _)
theorem dx {N:Nat} {wr wc wA:World} {fp fpx fpA:List Nat} {o:Obj} (hN:N<=wr.heap.size) (hc:Below wr.heap.size wr wc) (hf:∀b∈fp,N<=b) (hx:∀b∈fpx,wr.heap.size<=b/\b<wc.heap.size) (h2:∀b∈fpA,b∈fp∨b∈fpx∨(b=(wc.alloc o).heap.size/\b<wA.heap.size)):∀b∈fpA,N<=b:=by
 have h1:=hc.size;intro b hb;rcases h2 b hb with h|h|h
 . exact hf b h
 . have:=hx b h
   omega
 have:=h.1;simp at this
 omega
theorem dF {w:World} {v:Value} {zs:List Int} {fp:List Nat} (x:Int) (h:aA.Mine w [v] zs fp):tWr.Mine w [.int .i64 x,v] (x,zs) fp:=by
 have h1:eo.Mine w [.int .i64 x] x []:=⟨⟨rfl,rfl⟩,by simp⟩;exact fk (t:=eo) (u:=aA) (vs:=[_]) (us:=[_]) h1 h (by simp)
theorem aq.undrew {fp:List Nat} {w w':World} (h:aq fp w.drew w'):aq fp w w':=⟨h.os,h.tape,h.output,h.size,h.block⟩
theorem bt {w:World} {E:TypeId} {lo hi l0 u0 l1 u1 l3 u3:Nat} {v0 v1 v3:Value} {f:Bool} {ss:List (List Int)} {cs:List (Int×List Int)} {bs:List Int} (h0:aR.Own w l0 u0 [v0] ss) (h1:(aU E).Own w l1 u1 [v1] cs) (h3:aA.Own w l3 u3 [v3] bs)
 (d01:u0<=l1∨u1<=l0) (d03:u0<=l3∨u3<=l0) (d13:u1<=l3∨u3<=l1) (r0:lo<=l0/\u0<=hi) (r1:lo<=l1/\u1<=hi) (r3:lo<=l3/\u3<=hi):(bC E).Own w lo hi [v0,v1,.bool f,v3] (ss,cs,f,bs):=by
 obtain ⟨f0,m0,k0⟩:=h0.mine;obtain ⟨f1,m1,k1⟩:=h1.mine;obtain ⟨f3,m3,k3⟩:=h3.mine;have mb:eY.Mine w [.bool f] f []:=⟨⟨rfl,rfl⟩,by simp⟩;have p1:=fk (t:=eY) (u:=aA) (vs:=[_]) (us:=[_]) mb m3 (by simp);have p2:=fk (t:=aU E) (u:=dO eY aA) (vs:=[_]) (us:=[_,_]) m1 p1 (fun b hb hb'=>by
  have e1:=k1 b hb;have e2:=k3 b (by simpa using hb');omega)
 have p3:=fk (t:=aR) (u:=dO (aU E) (dO eY aA)) (vs:=[_]) (us:=[_,_,_]) m0 p2 (fun b hb hb'=>by
  have e0:=k0 b hb;simp at hb'
  rcases hb' with h|h
  . have e1:=k1 b h
    omega
  have e3:=k3 b h;omega)
 refine Ty.Mine.own (t:=bC E) p3 (fun b hb=>?_)
 simp at hb
 rcases hb with h|h|h
 . have:=k0 b h
   omega
 . have:=k1 b h
   omega
 have:=k3 b h;omega
theorem sJ {G:Nat->Nat->World->Option Addr->Nat->Prop} {A:Nat->Nat->World->Option Addr->Nat->List Nat->Prop} {C:Prop} (main:∀BO g w6 a5 c5 fp3,A BO g w6 a5 c5 fp3->G BO g w6 a5 c5) (use:Hid (∀BO g w6 a5 c5 fp3,A BO g w6 a5 c5 fp3->G BO g w6 a5 c5)->C):C:=use main
theorem iN {w:World} {lo:Nat} {v:Value} {zs:List Int} (h:br .i64 3 w lo v zs):∃fp,aA.Mine w [v] zs fp/\∀b∈fp,v.ownBlock=some b/\b<w.heap.size:=by
 rcases h.2 with ⟨hv,hn⟩|⟨g,cap,cur,hv,hb,hg,hnc,hcm,hcs,ht⟩
 . exact ⟨[],⟨.inl ⟨by rw [hv],List.eq_nil_of_length_eq_zero hn,rfl⟩,by simp⟩,by simp⟩
 have hgl:g<w.heap.size:=(Array.getElem?_eq_some_iff.1 hg).1;refine ⟨[g],⟨.inr ⟨g,cap,cur,zs.map fun _=>[],by rw [hv],hnc,hcm,hg,hcs,by simp,by simp,fun i x hx=>?_⟩,by simp⟩,by intro b hb;simp at hb;subst hb;exact ⟨by rw [hv];rfl,hgl⟩⟩
 have hi:i<zs.length:=(List.getElem?_eq_some_iff.1 hx).1;refine ⟨[],by rw [List.getElem?_map,hx];rfl,?_,rfl⟩
 have e:cur.toList[i]?=some (.int .i64 x):=by
  have:(cur.toList.take (zs.length*1))[i]?=(zs.map (Value.int .i64))[i]?:=by rw [ht]
  rw [List.getElem?_take,if_pos (by omega),List.getElem?_map,hx] at this;exact this
 have hic:i<cur.toList.length:=(List.getElem?_eq_some_iff.1 e).1;show (cur.toList.drop (i*1)).take 1=_
 rw [Nat.mul_one,List.drop_eq_getElem_cons hic,List.take_succ_cons,List.take_zero];rw [List.getElem?_eq_getElem hic] at e;simp at e
 rw [Array.getElem_toList,e]
theorem dG {P:Program} {w:World} {ops:Array Oper} {o:Oper} {a:Act} {K:Act->World->Prop} {Q:Exit->Act->World->Prop} {G:Prop} (hgd:o.guard=none) (s x:Operand) (t:TypeId)
 (ho:o.op=.call { callee:=.builtin .append,args:=#[s,x],argTypes:=#[t,t] })
 (i:TypeInfo) (ht:P.underlying t=some (.slice 3)) (hi:P.info? 3=some i) (hz:i.zero=some (.int .i64 0)) (hsize:i.size=1) (hby:i.bytes=8)
 (g:Nat) (hs:a.eval s=.slice (some ⟨g,0,none⟩) 0 0) (hg:w.heap[g]?=some (.cells #[] 3 (0,0)))
 (src:Option Addr) (n cap:Nat) (zs:List Int) (hx:a.eval x=.slice src n cap) (hr:aA.Rd w [.slice src n cap] zs) (hn:n<=2097152)
 (h:∀a' c' w' fp,aA.Mine w' [.slice a' n c'] zs fp->(∀b∈fp,(b=g∨b=w.heap.size)/\b<w'.heap.size)->aq [g] w w'->K (a.put o.dst (.slice a' n c')) w'):
 if Region.wanted o (yielded ops a.tmps)=true then Oper.wp P o a w K Q else G:=by
 have hw:Region.wanted o (yielded ops a.tmps)=true:=by simp [Region.wanted,hgd]
 rw [if_pos hw];have hgl:g<w.heap.size:=(Array.getElem?_eq_some_iff.1 hg).1;have hown:w.ownsRow 0 3 1 (.slice (some ⟨g,0,none⟩) 0 0) 0 []:=⟨rfl,.inr ⟨g,0,#[],rfl,Nat.zero_le _,hg,Nat.le_refl _,Nat.zero_le _,rfl,rfl⟩⟩;obtain ⟨hrd,hl,_,_⟩:=aO hr;match src,hx,hr,hrd with
 | none,hx,hr,_=>
  obtain ⟨rfl,rfl,rfl⟩:=lg hr;have hrun:=run_append_owned_none (P:=P) (w:=w) 0 t o.type 3 i 1 ht hi _ 0 [] hown;unfold Oper.wp;simp [execOp,ho,resolve,invoke,builtin,hs,hx,hrun,Result.andThen]
  exact h _ _ w [g] ⟨.inr ⟨g,0,#[],[],rfl,Nat.le_refl _,by omega,hg,rfl,rfl,rfl,fun i x hx=>by simp at hx⟩,by simp⟩ (by simp;exact hgl) (aq.refl _ _)
 | some ad,hx,_,hrd=>
  obtain ⟨v',w',hrun,k1,k2,_,k4⟩:=run_append_own_at (P:=P) w 0 t o.type 3 i (.int .i64 0) 1 8 ht hi hz hsize hby rfl (by decide) _ 0 [] hown ad n cap (zs.map (Value.int .i64)) (by simp [hl]) hrd.cells (lk zs) (by unfold maxLen;omega) (by omega) (Nat.zero_le _);have ko:br .i64 3 w' 0 v' zs:=by
   unfold br;rw [hl];simpa using k1
  obtain ⟨fp,m1,m2⟩:=iN ko;obtain ⟨a',c',hv⟩:=aw m1.rd;rw [hl] at hv;subst hv;unfold Oper.wp;simp [execOp,ho,resolve,invoke,builtin,hs,hx,hrun,Result.andThen]
  refine h _ _ w' fp m1 (fun b hb=>⟨?_,(m2 b hb).2⟩) ⟨k2.os,k2.tape,k2.output,k2.size,fun k hk hf=>k2.block k hk (by simp [Value.ownBlock];exact fun e=>hf (by simp [e]))⟩
  have h1:=(m2 b hb).1;rw [h1] at k4;rcases k4 with k4|k4
  . left
    simpa [Value.ownBlock] using k4
  right
  simpa using k4
theorem lr (n:Int) (w:World):Calls Tryz.prog 56 #[.int .i64 n] w fun e w'=>e=.returned (.bool (isW n))/\w'=w:=by
 unfold isW;by_cases h0:0<=n
 . by_cases h1:n<=65535
   . go_enter Tryz.func56,Tryz.ntmps56
     go_wp2
     go_ret
     exact ⟨ag (by simp [h0,h1]),rfl⟩
   go_enter Tryz.func56,Tryz.ntmps56
   go_wp2
   go_ret
   exact ⟨ag (by symm;simp;omega),rfl⟩
 go_enter Tryz.func56,Tryz.ntmps56
 go_wp2
 go_ret
 exact ⟨ag (by symm;simp;omega),rfl⟩
theorem lu (n:Int) (w:World):Calls Tryz.prog 59 #[.int .i64 n] w fun e w'=>e=.returned (.bool (isW n))/\w'=w:=by
 go_enter Tryz.func59,Tryz.ntmps59
 go_wp2_with (go_at_call 66;refine (aB _ _ _ _).mono ?_;rintro e w' ⟨rfl,rfl⟩)
 go_ret
 exact ⟨rfl,rfl⟩
theorem dy (w:World) (a:Option Addr) (len cap:Nat) (zs:List Int) (hz:zs.length=len) (hr:aF .i64 w a zs) (hlen:len<=2097152):
 Calls Tryz.prog 184 #[.slice a len cap] w fun e w'=>e=.returned (.bool (cE zs))/\w'=w:=by
 go_enter Tryz.func184,Tryz.ntmps184
 go_wp2
 go_loop [3] (fun i=>∃j:Nat,j<=len/\i=.int .i64 j/\cE (zs.take j)=true) (fun i=>len-(intOf i).toNat)
 case atStart=>exact ⟨0,Nat.zero_le _,rfl,rfl⟩
 obtain ⟨j,hj,rfl,ht⟩:=hrel;by_cases hlt:j<len
 . rcases hr.cases with h0|⟨b,off,rfl,hbl,hc⟩
   . omega
   have hc1:=hc j (by omega);have hd:=ni (zs:=zs) (j:=j) (by omega) rfl;generalize zs.getD j 0=x at hc1 hd;have HT:Hid (cE (zs.take j)=true):=ht;clear hc ht;by_cases hx:isW x=true
   . have HD:=hd.1 hx HT.out
     clear hd;go_wp2_with (go_at_call 59;refine (lu _ _).mono ?_;rintro e w' ⟨rfl,rfl⟩)
     go_round
     case rel=>exact ⟨j+1,by omega,by go_num,HD⟩
     case measure=>simp [intOf];omega
   have hx:isW x=false:=by simpa using hx
   have HD:=hd.2 hx;clear hd;go_wp2_with (go_at_call 59;refine (lu _ _).mono ?_;rintro e w' ⟨rfl,rfl⟩)
   go_ret
   exact ⟨ag (by rw [HD]),rfl⟩
 go_wp2
 go_ret
 have e:j=len:=by omega
 subst e;rw [List.take_of_length_le (by omega)] at ht;exact ⟨ag ht.symm,rfl⟩
theorem dT (w:World) (a:Option Addr) (len cap:Nat) (zs:List Int) (hz:zs.length=len) (hr:aF .i64 w a zs) (hlen:len<=2097152):
 Calls Tryz.prog 197 #[.slice a len cap] w fun e w'=>e=.returned (.bool (da zs))/\aH w w':=by
 by_cases h:len<=12
 . go_enter Tryz.func197,Tryz.ntmps197
   go_wp2_with (go_at_call 184;refine (dy _ _ _ _ zs hz hr hlen).mono ?_;rintro e w' ⟨rfl,rfl⟩)
   go_ret
   exact ⟨ag (by simp [da,hz,h]),aH.refl _⟩
 go_enter Tryz.func197,Tryz.ntmps197
 go_wp2
 go_ret
 exact ⟨ag (by simp [da,hz,h]),aH.refl _⟩
theorem bZ (w:World) (a:Option Addr) (len cap:Nat) (zs:List Int) (hz:zs.length=len) (hr:aF .i64 w a zs) (hlen:len<=2097152):
 Calls Tryz.prog 176 #[.slice a len cap] w fun e w'=>e=.returned (.bool (da zs))/\aH w w':=by
 by_cases h:len<=12
 . go_enter Tryz.func176,Tryz.ntmps176
   go_wp2
   go_loop [10] (fun i=>∃j:Nat,j<=len/\i=.int .i64 j/\cE (zs.take j)=true) (fun i=>len-(intOf i).toNat)
   case atStart=>exact ⟨0,Nat.zero_le _,rfl,rfl⟩
   obtain ⟨j,hj,rfl,ht⟩:=hrel;by_cases hlt:j<len
   . rcases hr.cases with h0|⟨b,off,rfl,hbl,hc⟩
     . omega
     have hc1:=hc j (by omega);have hd:=ni (zs:=zs) (j:=j) (by omega) rfl;generalize zs.getD j 0=x at hc1 hd;have HT:Hid (cE (zs.take j)=true):=ht;clear hc ht;by_cases hx:isW x=true
     . have HD:=hd.1 hx HT.out
       clear hd;go_wp2_with (go_at_call 56;refine (lr _ _).mono ?_;rintro e w' ⟨rfl,rfl⟩)
       go_round
       case rel=>exact ⟨j+1,by omega,by go_num,HD⟩
       case measure=>simp [intOf];omega
     have hx:isW x=false:=by simpa using hx
     have HD:=hd.2 hx;clear hd;go_wp2_with (go_at_call 56;refine (lr _ _).mono ?_;rintro e w' ⟨rfl,rfl⟩)
     go_ret
     exact ⟨ag (by simp [da,HD]),aH.refl _⟩
   go_wp2
   go_ret
   have e:j=len:=by omega
   subst e;rw [List.take_of_length_le (by omega)] at ht;exact ⟨ag (by simp [da,hz,h,ht]),aH.refl _⟩
 go_enter Tryz.func176,Tryz.ntmps176
 go_wp2
 go_ret
 exact ⟨ag (by simp [da,hz,h]),aH.refl _⟩
def wrB (n:Int) (x:Int×List Int):Bool:=inB x.1 0 (n-1)&&da x.2
def dq (n:Int) (bs:List Int) (i:Nat):Bool:=inB (bs.getD i 0) 0 (n-1)&&(decide (i=0)||decide (bs.getD (i-1) 0<bs.getD i 0))
def gZ (n:Int) (bs:List Int):Bool:=(List.range bs.length).all (dq n bs)
def aW (ss:List (List Int)) (cs:List (Int×List Int)) (bs:List Int):Bool:=
 ss.all da&&(cs.all (wrB ss.length)&&(gZ ss.length bs&&(inB ss.length 1 20&&decide (cs.length<=60))))
theorem jm {α:Type} {p:α->Bool} {l:List α} {j:Nat} {x:α} (h:l[j]?=some x):(p x=true->(l.take j).all p=true->(l.take (j+1)).all p=true)/\(p x=false->l.all p=false):=by
 have hj:j<l.length:=(List.getElem?_eq_some_iff.1 h).1;have e:l[j]=x:=by rw [List.getElem?_eq_getElem hj] at h;simpa using h
 refine ⟨fun h1 h2=>?_,fun h1=>?_⟩
 . rw [List.take_succ_eq_append_getElem hj,List.all_append,h2,e]
   simp [h1]
 rw [List.all_eq_false];exact ⟨x,by rw [←e];exact List.getElem_mem hj,by simp [h1]⟩
theorem aT (w:World) (E:TypeId) (a0 a1 a3:Option Addr) (n0 c0 n1 c1 n3 c3:Nat) (ss:List (List Int)) (cs:List (Int×List Int)) (f:Bool) (bs:List Int) (h0:aR.Rd w [.slice a0 n0 c0] ss) (h1:(aU E).Rd w [.slice a1 n1 c1] cs) (h3:aA.Rd w [.slice a3 n3 c3] bs) (hw:aJ (ss,cs,f,bs)<=2097152):
 Calls Tryz.prog 144 #[.agg #[.slice a0 n0 c0,.slice a1 n1 c1,.bool f,.slice a3 n3 c3]] w fun e w'=>e=.returned (.bool (aW ss cs bs))/\Below w.heap.size w w':=by
 obtain ⟨hl0,_,hm0⟩:=ae h0;obtain ⟨hl1,_,hm1⟩:=ae h1;obtain ⟨hl3,_,hm3⟩:=ae h3;have hw0:cB ss<=2097152:=by unfold aJ at hw;simp only at hw;omega
 have hw1:aY cs<=2097152:=by unfold aJ at hw;simp only at hw;omega
 have hw3:n3<=2097152:=by unfold aJ at hw;simp only at hw;omega
 have hn0:n0<=2097152:=by unfold cB at hw0;omega
 have hn1:n1<=2097152:=by unfold aY at hw1;omega
 have hA:Below w.heap.size w (w.alloc (.cells #[.slice a0 n0 c0,.slice a1 n1 c1,.bool f,.slice a3 n3 c3] 78)):=(Below.refl _ _).alloc (Nat.le_refl _) _;have hcell:∀j v,(#[Value.slice a0 n0 c0,.slice a1 n1 c1,.bool f,.slice a3 n3 c3])[j]?=some v->(w.alloc (.cells #[.slice a0 n0 c0,.slice a1 n1 c1,.bool f,.slice a3 n3 c3] 78)).cell? ⟨w.heap.size,j,none⟩=some v:=by
  intro j v hv;rw [cell_of_row _ w.heap.size j _ _ (0,0) (heap_alloc_new w _)];exact hv
 have k0:=hcell 0 _ rfl;have k1:=hcell 1 _ rfl;have k3:=hcell 3 _ rfl;have g0:=h0.below hA;have g1:=h1.below hA;have g3:=h3.below hA;have hz:w.heap.size<(w.alloc (.cells #[.slice a0 n0 c0,.slice a1 n1 c1,.bool f,.slice a3 n3 c3] 78)).heap.size:=by simp
 go_enter Tryz.func144,Tryz.ntmps144
 go_wp2
 generalize hW:w.alloc (.cells #[.slice a0 n0 c0,.slice a1 n1 c1,.bool f,.slice a3 n3 c3] 78)=W at hA k0 k1 k3 g0 g1 g3 hz ⊢;clear hW hcell h0 h1 h3;go_loopw [4] (fun i wr=>∃j:Nat,j<=n0/\i=.int .i64 j/\(ss.take j).all da=true/\aH W wr) (fun i _=>n0-(intOf i).toNat)
 case atStart=>exact ⟨0,Nat.zero_le _,rfl,rfl,aH.refl _⟩
 obtain ⟨j,hj,rfl,ht,hs⟩:=hrel;have q0:=(hs.cell _).trans k0;by_cases hjn:j<n0
 . rcases gX rfl g0 with h0'|⟨b,off,rfl,hbl,hcs⟩
   . omega
   have hdj:ss[j]?=some (ss[j]'(by omega)):=List.getElem?_eq_getElem (by omega);generalize ss[j]'(by omega)=x at hdj;have hal:=jm (p:=da) hdj;have hil:=fC hdj;obtain ⟨v,hv,hrv⟩:=hcs j x hdj;obtain ⟨av,cv,rfl⟩:=aw hrv;have q1:=(hs.cell ⟨b,off+j,none⟩).trans hv;obtain ⟨r1,_,_,_⟩:=aO (hrv.same hs);have HT:=aa ht;clear hcs hdj hv hrv ht;by_cases hx:da x=true
   . have HD:=aa (hal.1 hx HT.out)
     clear hal;go_wp2_with fail
     refine (dT _ _ _ _ x rfl r1 (by omega)).mono ?_
     rintro e w1 ⟨rfl,hs1⟩;go_wp2
     go_roundw
     case rel=>exact ⟨j+1,by omega,by go_num,HD.out,hs.trans hs1⟩
     case measure=>simp [intOf];omega
   have hx:da x=false:=by simpa using hx
   have HN:=aa (hal.2 hx);clear hal;go_wp2_with fail
   refine (dT _ _ _ _ x rfl r1 (by omega)).mono ?_
   rintro e w1 ⟨rfl,hs1⟩;go_wp2
   go_ret
   exact ⟨ag (by unfold aW;rw [HN.out];rfl),Below.andSame (Below.andSame hA hs) hs1⟩
 have e:j=n0:=by omega
 subst e;rw [List.take_of_length_le (by omega)] at ht;have HS0:=aa ht;have hss:ss.length=j:=hl0;clear ht hj hjn q0;go_wp2
 go_loopw [5] (fun i wr=>∃i2:Nat,i2<=n1/\i=.int .i64 i2/\(cs.take i2).all (wrB j)=true/\aH W wr) (fun i _=>n1-(intOf i).toNat)
 case atStart=>exact ⟨0,Nat.zero_le _,rfl,rfl,hs⟩
 clear hs;obtain ⟨i2,hi2,rfl,ht,hs⟩:=hrel;have q1:=(hs.cell _).trans k1;by_cases hin:i2<n1
 . rcases cO rfl g1 with h0'|⟨b,off,rfl,hbl,hcs⟩
   . omega
   have hdj:cs[i2]?=some (cs[i2]'(by omega)):=List.getElem?_eq_getElem (by omega);generalize cs[i2]'(by omega)=x at hdj;have hal:=jm (p:=wrB j) hdj;have hil:=bV hdj;obtain ⟨v0,v1,hv0,hv1,hrv⟩:=hcs i2 x hdj;obtain ⟨rfl,hrv'⟩:=eB hrv;obtain ⟨av,cv,rfl⟩:=aw hrv';have p0:=(hs.cell ⟨b,off+i2*2,none⟩).trans hv0;have p1:=(hs.cell ⟨b,off+i2*2+1,none⟩).trans hv1;obtain ⟨r1,_,_,_⟩:=aO (hrv'.same hs);obtain ⟨x0,x1⟩:=x;simp only at p0 p1 r1 hil
   have HT:=aa ht;clear hcs hdj hv0 hv1 hrv hrv' ht;by_cases hI:inB x0 0 ((j:Int)-1)=true
   . by_cases hx:da x1=true
     . have HD:=aa (hal.1 (by unfold wrB;simp only;rw [hI,hx];rfl) HT.out)
       clear hal;go_wp2_with fail
       refine (aB _ _ _ _).mono ?_
       rintro e w1 ⟨rfl,hw1'⟩;subst w1;go_wp2_with fail
       refine (dT _ _ _ _ x1 rfl r1 (by omega)).mono ?_
       rintro e w2 ⟨rfl,hs2⟩;go_wp2
       go_roundw
       case rel=>exact ⟨i2+1,by omega,by go_num,HD.out,hs.trans hs2⟩
       case measure=>simp [intOf];omega
     have hx:da x1=false:=by simpa using hx
     have HN:=aa (hal.2 (by unfold wrB;simp only;rw [hI,hx];rfl));clear hal;go_wp2_with fail
     refine (aB _ _ _ _).mono ?_
     rintro e w1 ⟨rfl,hw1'⟩;subst w1;go_wp2_with fail
     refine (dT _ _ _ _ x1 rfl r1 (by omega)).mono ?_
     rintro e w2 ⟨rfl,hs2⟩;go_wp2
     go_ret
     exact ⟨ag (by unfold aW;rw [hss,HN.out,HS0.out];rfl),Below.andSame (Below.andSame hA hs) hs2⟩
   have hI:inB x0 0 ((j:Int)-1)=false:=by simpa using hI
   have HN:=aa (hal.2 (by unfold wrB;simp only;rw [hI];rfl));clear hal;go_wp2_with fail
   refine (aB _ _ _ _).mono ?_
   rintro e w1 ⟨rfl,hw1'⟩;subst w1;go_wp2
   go_ret
   exact ⟨ag (by unfold aW;rw [hss,HN.out,HS0.out];rfl),Below.andSame hA hs⟩
 have e2:i2=n1:=by omega
 subst e2;rw [List.take_of_length_le (by omega)] at ht;have HS1:=aa ht;have hcsl:cs.length=i2:=hl1;clear ht hi2 hin;go_wp2
 go_loopw [6] (fun i wr=>∃i3:Nat,i3<=n3/\i=.int .i64 i3/\(List.range i3).all (dq j bs)=true/\aH W wr) (fun i _=>n3-(intOf i).toNat)
 case atStart=>exact ⟨0,Nat.zero_le _,rfl,rfl,hs⟩
 clear hs;obtain ⟨i3,hi3,rfl,ht,hs⟩:=hrel;have q3:=(hs.cell _).trans k3;by_cases hi3n:i3<n3
 . obtain ⟨R3,_,_,_⟩:=aO g3
   rcases R3.cases with h0'|⟨b,off,rfl,hbl,hcs⟩
   . omega
   have p0:=(hs.cell ⟨b,off+i3,none⟩).trans (hcs i3 (by omega));have HT:=aa ht;have hrs:(List.range (i3+1)).all (dq j bs)=((List.range i3).all (dq j bs)&&dq j bs i3):=by rw [List.range_succ,List.all_append];simp
   have hrn:dq j bs i3=false->gZ j bs=false:=by
    intro h;unfold gZ;rw [List.all_eq_false];exact ⟨i3,by simp;omega,by simp [h]⟩
   have hbd:dq j bs i3=(inB (bs.getD i3 0) 0 ((j:Int)-1)&&(decide (i3=0)||decide (bs.getD (i3-1) 0<bs.getD i3 0))):=rfl;have i1:(0:Int)<=(i3:Int):=by omega
   have i2':(i3:Int)<(n3:Int):=by omega
   have gw:IntKind.i64.wrap ((j:Int)-1)=(j:Int)-1:=IntWalk.i64_in _ (by omega);by_cases hI:inB (bs.getD i3 0) 0 ((j:Int)-1)=true
   . by_cases hz3:i3=0
     . have HD:Hid ((List.range (i3+1)).all (dq j bs)=true):=by unfold Hid;rw [hrs,HT.out,hbd,hI,decide_eq_true hz3];rfl
       generalize bs.getD i3 0=y at p0 hI;have d0:decide ((0:Int)<(i3:Int))=false:=decide_eq_false (by omega);have d0b:decide (0<i3)=false:=decide_eq_false (by omega);have HZ:=aa hz3;clear hcs ht hrs hrn hbd hz3 R3;go_wp2_with fail
       go_quiet ((go_at_call 66;exact Calls.quiet_of_same (aB _ _ _ _)))
       go_wp2
       go_roundw
       case rel=>exact ⟨i3+1,by omega,by go_num,HD.out,hs.drewN _⟩
       case measure=>simp [intOf];omega
     have p1:=(hs.cell ⟨b,off+(i3-1),none⟩).trans (hcs (i3-1) (by omega));have d0:decide ((0:Int)<(i3:Int))=true:=decide_eq_true (by omega);have d0b:decide (0<i3)=true:=decide_eq_true (by omega);have gv:IntKind.i64.wrap ((i3:Int)-1)=(i3:Int)-1:=IntWalk.i64_in _ (by omega);have gt:((i3:Int)-1).toNat=i3-1:=by omega
     have i3a:(0:Int)<=(i3:Int)-1:=by omega
     have i3b:(i3:Int)-1<(n3:Int):=by omega
     by_cases hlt:bs.getD (i3-1) 0<bs.getD i3 0
     . have HD:Hid ((List.range (i3+1)).all (dq j bs)=true):=by unfold Hid;rw [hrs,HT.out,hbd,hI,decide_eq_true hlt];simp
       generalize bs.getD i3 0=y at p0 hI hlt;generalize bs.getD (i3-1) 0=z at p1 hlt;have d1:¬y<=z:=by omega
       clear hcs ht hrs hrn hbd hz3 R3;go_wp2_with fail
       go_quiet ((go_at_call 66;exact Calls.quiet_of_same (aB _ _ _ _)))
       go_wp2
       go_roundw
       case rel=>exact ⟨i3+1,by omega,by go_num,HD.out,hs.drewN _⟩
       case measure=>simp [intOf];omega
     have HN:=aa (hrn (by rw [hbd,hI,decide_eq_false hz3,decide_eq_false hlt];rfl));generalize bs.getD i3 0=y at p0 hI hlt;generalize bs.getD (i3-1) 0=z at p1 hlt;have d1:y<=z:=by omega
     clear hcs ht hrs hrn hbd hz3 R3;go_wp2_with fail
     go_quiet ((go_at_call 66;exact Calls.quiet_of_same (aB _ _ _ _)))
     go_wp2
     go_ret
     exact ⟨ag (by unfold aW;rw [hss,HN.out,HS1.out,HS0.out];rfl),Below.andSame hA (hs.drewN _)⟩
   have hI:inB (bs.getD i3 0) 0 ((j:Int)-1)=false:=by simpa using hI
   have HN:=aa (hrn (by rw [hbd,hI];rfl));generalize bs.getD i3 0=y at p0 hI;clear hcs ht hrs hrn hbd R3;go_wp2_with fail
   go_quiet ((go_at_call 66;exact Calls.quiet_of_same (aB _ _ _ _)))
   go_wp2
   go_ret
   exact ⟨ag (by unfold aW;rw [hss,HN.out,HS1.out,HS0.out];rfl),Below.andSame hA (hs.drewN _)⟩
 have e3:i3=n3:=by omega
 have HB:Hid (gZ j bs=true):=by unfold Hid gZ;rw [hl3,←e3];exact ht
 clear ht hi3;have q1:=(hs.cell _).trans k1;by_cases hI:inB (j:Int) 1 20=true
 . by_cases h60:(i2:Int)<=60
   . have h60':i2<=60:=by omega
     have H60:=aa (decide_eq_true h60');clear h60';go_wp2_with fail
     refine (aB _ _ _ _).mono ?_
     rintro e w1 ⟨rfl,hw1'⟩;subst w1;go_wp2
     go_ret
     exact ⟨ag (by unfold aW;rw [hss,hcsl,HB.out,HS1.out,HS0.out,hI,H60.out];rfl),Below.andSame hA hs⟩
   have h60':¬i2<=60:=by omega
   have H60:=aa (decide_eq_false h60');clear h60';go_wp2_with fail
   refine (aB _ _ _ _).mono ?_
   rintro e w1 ⟨rfl,hw1'⟩;subst w1;go_wp2
   go_ret
   exact ⟨ag (by unfold aW;rw [hss,hcsl,HB.out,HS1.out,HS0.out,hI,H60.out,decide_eq_false (by omega)];rfl),Below.andSame hA hs⟩
 have hI:inB (j:Int) 1 20=false:=by simpa using hI
 go_wp2_with fail
 refine (aB _ _ _ _).mono ?_
 rintro e w1 ⟨rfl,hw1'⟩;subst w1;go_wp2
 go_ret
 exact ⟨ag (by unfold aW;rw [hss,HB.out,HS1.out,HS0.out,hI];rfl),Below.andSame hA hs⟩
end Go.Proofs.YtejokiafgbjdaaaGreat

namespace Go.Proofs.YtejokiafgbjdaaaGreat
open Go.RowKit Go.Maps
def iA (v:Value):Option (DataW Value×List MemPlace):=some (.held v,[])
def cG (l:List (Int×List Int)) (q:Int):Option (List Int):=l.foldl (fun acc x=>if x.1=q then some x.2 else acc) none
theorem iY (l:List (Int×List Int)) (x:Int×List Int) (q:Int):cG (l++[x]) q=if x.1=q then some x.2 else cG l q:=by
 unfold cG;rw [List.foldl_append];rfl
def gh (w:World) (l:List (Int×List Int)) (D:DataW Value):Prop:=
 ∀q:Int,(cG l q=none->Maps.has D (.int .i64 q)=false)/\∀zs,cG l q=some zs->Maps.has D (.int .i64 q)=true/\∃a n cap,(∀z,D.atKey (.int .i64 q) z=.held (.agg #[.int .i64 q,.slice a n cap]))/\aA.Rd w [.slice a n cap] zs
theorem gh.nil (w:World):gh w [] (.map []):=fun q=>⟨fun _=>rfl,fun zs h=>by simp [cG] at h⟩
theorem gh.step {w:World} {l:List (Int×List Int)} {D:DataW Value} (h:gh w l D) (hD:IsMap D) (x0:Int) (x1:List Int) (a:Option Addr) (n cap:Nat) (hr:aA.Rd w [.slice a n cap] x1):
 gh w (l++[(x0,x1)]) (D.put (.int .i64 x0) (.held (.agg #[.int .i64 x0,.slice a n cap]))):=by
 intro q;rw [iY];by_cases hq:x0=q
 . subst hq
   simp only [if_true]
   refine ⟨fun e=>by simp at e,fun zs e=>?_⟩
   simp at e
   subst e;have hk:WideAt.IsKeyLit (.int .i64 x0):=trivial;exact ⟨has_put_same hD hk _,a,n,cap,fun z=>atKey_put_same hD hk _ _,hr⟩
 simp only [hq,if_false]
 have hne:(Lit.int .i64 q)≠Lit.int .i64 x0:=fun e=>by simp at e;exact hq e.symm
 refine ⟨fun e=>?_,fun zs e=>?_⟩
 . rw [has_put_other hne]
   exact (h q).1 e
 obtain ⟨h1,a',n',c',h2,h3⟩:=(h q).2 zs e;exact ⟨by rw [has_put_other hne];exact h1,a',n',c',fun z=>by rw [atKey_put_other hne];exact h2 z,h3⟩
theorem nX:Keyed Tryz.prog 3:=int_keyed Tryz.underlying3
theorem rP (w0 w:World) (hb0:Below w0.heap.size w0 w) (E:TypeId) (a:Option Addr) (n cap:Nat) (d:List (Int×List Int)) (h:(aU E).Rd w0 [.slice a n cap] d) (hn:n<=2097152) (hd:∀x∈d,0<=x.1/\x.1<=20):
 Calls Tryz.prog 264 #[.slice a n cap] w fun e w'=>e=.returned (.map (some w.heap.size))/\Below w.heap.size w w'/\∃D,w'.ownsMap Tryz.prog 3 iA w.heap.size n D/\gh w0 d D:=by
 obtain ⟨hl,hc,hm⟩:=ae h;have hmm:=@run_makeMap Tryz.prog;go_enter Tryz.func264,Tryz.ntmps264
 go_wp2
 clear hmm;go_loopw [9] (fun i wr=>∃j:Nat,j<=n/\i=.int .i64 j/\Below w.heap.size w wr/\∃D,wr.ownsMap Tryz.prog 3 iA w.heap.size j D/\gh w0 (d.take j) D) (fun i _=>n-(intOf i).toNat)
 case atStart=>exact ⟨0,Nat.zero_le _,rfl,(Below.refl _ _).alloc (Nat.le_refl _) _,_,World.ownsMap_made _ _ _ _,gh.nil _⟩
 obtain ⟨j,hj,rfl,hb,D,ho,hL⟩:=hrel;by_cases hjn:j<n
 . rcases cO rfl h with h0'|⟨b,off,rfl,hbl,hcs⟩
   . omega
   have hdj:d[j]?=some (d[j]'(by omega)):=List.getElem?_eq_getElem (by omega);have hmem:d[j]'(by omega)∈d:=List.getElem_mem _;have htk:d.take (j+1)=d.take j++[d[j]'(by omega)]:=List.take_succ_eq_append_getElem (by omega);generalize d[j]'(by omega)=x at hdj hmem htk;have hx:=hd x hmem;obtain ⟨v0,v1,hv0,hv1,hrv⟩:=hcs j x hdj;obtain ⟨rfl,hrv'⟩:=eB hrv;obtain ⟨av,cv,rfl⟩:=aw hrv';have hbr:=hb0.trans (hb.mono hb0.size);have p0:=(hbr.cell (p:=⟨b,off+j*2,none⟩) hbl).trans hv0;have p1:=(hbr.cell (p:=⟨b,off+j*2+1,none⟩) hbl).trans hv1;clear hbr;obtain ⟨x0,x1⟩:=x;simp only at p0 p1 hrv' hx
   have HL:=aa (hL.step ho.isMap x0 x1 av x1.length cv hrv');have HK:=aa (htk);have HO:=aa (ho.alloc (.cells #[.int .i64 x0,.slice av x1.length cv] 142));have hkey:keyOf Tryz.prog 3 (.int .i64 x0)=some (.int .i64 x0):=keyOf_int_mk Tryz.underlying3 (WalkArith.wf_i64 (by omega));have HKEY:=aa hkey;have HB:=aa (hb.alloc hb.size (.cells #[.int .i64 x0,.slice av x1.length cv] 142));clear hcs hdj hv0 hv1 hrv hrv' hmem htk ho hL hkey;go_wp2_with (at_mapUpdate;refine wpList_mapUpdate_own _ rfl _ _ _ 210 rfl 3 142 nX Tryz.underlying210 iA w.heap.size j D rfl ?_ ?_ _ _ (.int .i64 x0) rfl rfl ?_ (.held (.agg #[.int .i64 x0,.slice av x1.length cv])) [] rfl ?_;exact HO.out;unfold maxLen;omega;exact HKEY.out;intro w1 hown1 hgrow1;have HO1:=aa hown1;have HG1:=aa hgrow1;clear hown1 hgrow1)
   have hB1:Below w.heap.size w w1:=HB.out.grown HG1.out HB.out.size (fun k hk=>by cases hk;exact Nat.le_refl _);clear HB HG1 HO hb;go_roundw
   case rel=>exact ⟨j+1,by omega,by go_num,hB1,_,HO1.out,by rw [HK.out];exact HL.out⟩
   case measure=>simp [intOf];omega
 have e:j=n:=by omega
 subst e;rw [List.take_of_length_le (by omega)] at hL;go_wp2
 go_ret
 exact ⟨rfl,hb,D,ho,hL⟩
theorem ue {q:Int} (h0:0<=q) (h1:q<=2097152):keyOf Tryz.prog 3 (.int .i64 q)=some (.int .i64 q):=keyOf_int_mk Tryz.underlying3 (WalkArith.wf_i64 (by omega))
theorem sR (w:World):(zeroValue 142).run Tryz.prog w=.ok (.agg #[.int .i64 0,.slice none 0 0]) w:=by kernel_rfl
end Go.Proofs.YtejokiafgbjdaaaGreat

namespace Go.Proofs.YtejokiafgbjdaaaGreat
open Go.RowKit

theorem dI {w V:World} {N R m1 m2 h:Nat} {v0 v1 v3:Value} {f:Bool} {ss:List (List Int)} {cs:List (Int×List Int)} {bs:List Int} (B:Below w.heap.size w V) (D:aA.Own V N m1 [v3] bs) (S:aR.Own V m1 m2 [v0] ss) (C:(aU 142).Own V m2 h [v1] cs) (r1:N<=m1) (r2:m1<=m2) (r3:m2<=h) (rh:h<=V.heap.size) (hR:R<N) (hw:w.heap.size<=R):
 (bC 142).Own ((((V.setCell ⟨R,0,none⟩ v0).setCell ⟨R,1,none⟩ v1).setCell ⟨R,2,none⟩ (.bool f)).setCell ⟨R,3,none⟩ v3) w.heap.size ((((V.setCell ⟨R,0,none⟩ v0).setCell ⟨R,1,none⟩ v1).setCell ⟨R,2,none⟩ (.bool f)).setCell ⟨R,3,none⟩ v3).heap.size [v0,v1,.bool f,v3] (ss,cs,f,bs)/\Below w.heap.size w ((((V.setCell ⟨R,0,none⟩ v0).setCell ⟨R,1,none⟩ v1).setCell ⟨R,2,none⟩ (.bool f)).setCell ⟨R,3,none⟩ v3):=by
 have hbt:But R (R+1) V ((((V.setCell ⟨R,0,none⟩ v0).setCell ⟨R,1,none⟩ v1).setCell ⟨R,2,none⟩ (.bool f)).setCell ⟨R,3,none⟩ v3):=(((But.setCell (by omega) (by omega) _).trans (But.setCell (by omega) (by omega) _)).trans (But.setCell (by omega) (by omega) _)).trans (But.setCell (by omega) (by omega) _);have z:=hbt.size;exact ⟨bt (S.but hbt (by omega)) (C.but hbt (by omega)) (D.but hbt (by omega)) (by omega) (by omega) (by omega) ⟨by omega,by omega⟩ ⟨by omega,by omega⟩ ⟨by omega,by omega⟩,Below.andBut B hbt hw⟩
end Go.Proofs.YtejokiafgbjdaaaGreat
