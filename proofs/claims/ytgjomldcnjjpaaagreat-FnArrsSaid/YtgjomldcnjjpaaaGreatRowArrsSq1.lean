/-
 The walks of the laws' helpers that mark a slice (each place gets the next number) and ask whether the marks are held. Conditions: at most 2097152 elements, and the first number between 0 and 16777216.
-/
import Derived.WalkKit
import Derived.WalkSpells
import Derived.WalkLawsBesides
import Derived.Handy
import Derived.BigQuiet
import Derived.Deep.QuietTactic
import Derived.Deep.RegionHeld3
import Derived.Deep.AppendLies
import Derived.Test.YtgjomldcnjjpaaaGreatRows
import Derived.OrdersHeld
import Derived.RegionTactic

set_option maxRecDepth 100000
set_option maxHeartbeats 8000000
set_option linter.unusedSimpArgs false

namespace Go.Proofs.YtgjomldcnjjpaaaGreat
open Go.RowKit

def aJ (k:IntKind) (w:World) (a:Option Addr) (zs:List Int):Prop:=
 zs=[]∨∃b off,a=some ⟨b,off,none⟩/\b<w.heap.size/\∀i,i<zs.length->w.cell? ⟨b,off+i,none⟩=some (.int k (zs.getD i 0))
theorem aJ.below {k:IntKind} {w w':World} {a:Option Addr} {zs:List Int} (h:aJ k w a zs) (hb:Below w.heap.size w w'):aJ k w' a zs:=by
 rcases h with h|⟨b,off,ha,hlt,hc⟩
 . exact .inl h
 refine .inr ⟨b,off,ha,Nat.lt_of_lt_of_le hlt hb.size,fun i hi=>?_⟩
 rw [hb.cell (p:=⟨b,off+i,none⟩) hlt];exact hc i hi
theorem aJ.draw {k:IntKind} {w:World} {a:Option Addr} {zs:List Int} (h:aJ k w a zs):aJ k w.drew a zs:=h
theorem aJ.old {k:IntKind} {w w':World} {a:Option Addr} {zs:List Int} {B:Nat} (h:aJ k w a zs) (hB:∀x,a=some x->x.block<B) (hb:Below B w w'):aJ k w' a zs:=by
 rcases h with h|⟨b,off,ha,hlt,hc⟩
 . exact .inl h
 refine .inr ⟨b,off,ha,Nat.lt_of_lt_of_le hlt hb.size,fun i hi=>?_⟩
 have hx:b<B:=hB _ ha;rw [hb.cell (p:=⟨b,off+i,none⟩) hx];exact hc i hi
structure aP (w w':World):Prop where
 os:w'.os=w.os
 tape:w'.tape=w.tape
 output:w'.output=w.output
 heap:w'.heap=w.heap
theorem aP.refl (w:World):aP w w:=⟨rfl,rfl,rfl,rfl⟩
theorem aP.trans {a b c:World} (h:aP a b) (k:aP b c):aP a c:=⟨k.os.trans h.os,k.tape.trans h.tape,k.output.trans h.output,k.heap.trans h.heap⟩
theorem aP.drew {a w:World} (h:aP a w):aP a w.drew:=⟨h.os,h.tape,h.output,h.heap⟩
theorem aP.drewN {a w:World} (h:aP a w) (n:Nat):aP a (w.drewN n):=⟨h.os,h.tape,h.output,h.heap⟩
theorem aP.below {w w':World} (h:aP w w') (B:Nat):Below B w w':=⟨h.os,h.tape,h.output,by rw [h.heap];exact Nat.le_refl _,fun _ _=>by rw [h.heap]⟩
theorem aP.cell {w w':World} (h:aP w w') (p:Addr):w'.cell? p=w.cell? p:=(h.below (p.block+1)).cell (Nat.lt_succ_self _)
theorem aP.size {w w':World} (h:aP w w'):w'.heap.size=w.heap.size:=by rw [h.heap]
theorem aJ.same {k:IntKind} {w w':World} {a:Option Addr} {zs:List Int} (h:aJ k w a zs) (hs:aP w w'):aJ k w' a zs:=h.below (hs.below _)
theorem aJ.cases {k:IntKind} {w:World} {a:Option Addr} {zs:List Int} (h:aJ k w a zs):zs.length=0∨∃b off,a=some ⟨b,off,none⟩/\b<w.heap.size/\∀i,i<zs.length->w.cell? ⟨b,off+i,none⟩=some (.int k (zs.getD i 0)):=by
 rcases h with h|h
 . exact .inl (by rw [h];rfl)
 exact .inr h
def bk (k:IntKind) (E:TypeId) (w:World) (base:Nat) (v:Value) (zs:List Int):Prop:=
 w.ownsRow base E 1 v zs.length (zs.map (Value.int k))
theorem bk.shape {k:IntKind} {E:TypeId} {w:World} {base:Nat} {v:Value} {zs:List Int} (h:bk k E w base v zs):
 ∃a cap,v=.slice a zs.length cap/\aJ k w a zs/\(∀x,a=some x->base<=x.block/\x.block<w.heap.size):=by
 rcases h.2 with ⟨hv,hn⟩|⟨g,cap,cur,hv,hb,hg,hnc,hcm,hcs,ht⟩
 . refine ⟨none,0,by rw [hv,hn],.inl (List.eq_nil_of_length_eq_zero hn),by simp⟩
 have hlt:g<w.heap.size:=(Array.getElem?_eq_some_iff.1 hg).1;refine ⟨some ⟨g,0,none⟩,cap,hv,.inr ⟨g,0,rfl,hlt,fun i hi=>?_⟩,?_⟩
 . have h':w.ownsRow base E 1 (.slice (some ⟨g,0,none⟩) zs.length cap) zs.length (zs.map (Value.int k)):=by rw [←hv];exact h
   have:=h'.cellAt i (by omega);rw [Nat.zero_add,this];simp [List.getElem?_eq_getElem hi]
 intro x hx;simp at hx
 subst hx;exact ⟨hb,hlt⟩
theorem bk.below {k:IntKind} {E:TypeId} {w w':World} {base B:Nat} {v:Value} {zs:List Int} (h:bk k E w base v zs) (hb:Below B w w') (hB:w.heap.size<=B):bk k E w' base v zs:=by
 refine ⟨h.1,?_⟩
 rcases h.2 with h2|⟨g,cap,cur,hv,hbg,hg,r⟩
 . exact .inl h2
 have hlt:g<w.heap.size:=(Array.getElem?_eq_some_iff.1 hg).1;exact .inr ⟨g,cap,cur,hv,hbg,by rw [hb.block g (by omega)];exact hg,r⟩
theorem bk.lower {k:IntKind} {E:TypeId} {w:World} {base base':Nat} {v:Value} {zs:List Int} (h:bk k E w base v zs) (hb:base'<=base):bk k E w base' v zs:=by
 refine ⟨h.1,?_⟩
 rcases h.2 with h2|⟨g,cap,cur,hv,hbg,r⟩
 . exact .inl h2
 exact .inr ⟨g,cap,cur,hv,by omega,r⟩
theorem ah {a b:Bool} (h:a=b):Ending.returned (.bool a)=.returned (.bool b):=by rw [h]
theorem aF {k:IntKind} {a b:Int} (h:a=b):Ending.returned (.int k a)=.returned (.int k b):=by rw [h]
theorem ie (k:IntKind) (n:Nat):(madeCells (Value.int k 0).cells (n*1)).toList=(List.replicate n (0:Int)).map (Value.int k):=by
 apply List.ext_getElem?
 intro i;by_cases h:i<n
 . simp [madeCells,h,Value.cells,Nat.mod_one]
 simp [madeCells,h]
theorem rf {xs ys:List Int} {j:Nat} (h1:j<xs.length) (h2:j<ys.length):
 (xs.getD j 0=ys.getD j 0->xs.take j=ys.take j->xs.take (j+1)=ys.take (j+1))/\(xs.getD j 0≠ys.getD j 0->xs≠ys):=by
 refine ⟨fun h ht=>?_,fun h he=>h (by rw [he])⟩
 rw [List.take_succ_eq_append_getElem h1,List.take_succ_eq_append_getElem h2,ht];simp only [List.getD_eq_getElem?_getD,List.getElem?_eq_getElem h1,List.getElem?_eq_getElem h2,Option.getD_some] at h
 rw [h]
theorem Below.andThen {w w1 w2:World} (h:Below w.heap.size w w1) (k:Below w1.heap.size w1 w2):Below w.heap.size w w2:=h.trans (k.mono h.size)
theorem Below.andSame {w w1 w2:World} (h:Below w.heap.size w w1) (k:aP w1 w2):Below w.heap.size w w2:=h.trans (k.below _)
theorem bk.reads {k:IntKind} {E:TypeId} {w:World} {base n cap:Nat} {a:Option Addr} {zs:List Int} (h:bk k E w base (.slice a n cap) zs):aJ k w a zs:=by
 obtain ⟨a',cap',hv,hr,_⟩:=h.shape;simp only [Value.slice.injEq] at hv
 rw [hv.1];exact hr
def rg (k:IntKind) (w:World) (a:Option Addr) (len cap:Nat) (zs:List Int):Prop:=
 (a=none/\len=0/\cap=0/\zs=[]) ∨
 ∃x,a=some x/\len<=cap/\cap<=maxLen/\zs.length=cap/\(∀i,i<zs.length->w.cell? (x.add i)=some (.int k (zs.getD i 0)))/\∀n∈zs,(Lit.int k n).wf=true
theorem rg.reads {k:IntKind} {w:World} {a:Option Addr} {len cap:Nat} {zs:List Int} (h:rg k w a len cap zs):
 aJ k w a (zs.take len)/\(zs.take len).length=len/\(∀n∈zs.take len,(Lit.int k n).wf=true)/\len<=maxLen:=by
 rcases h with ⟨rfl,rfl,rfl,rfl⟩|⟨x,rfl,hl,hm,hz,hc,hw⟩
 . exact ⟨.inl rfl,rfl,by simp,Nat.zero_le _⟩
 have hlen:(zs.take len).length=len:=by simp;omega
 refine ⟨?_,hlen,fun n hn=>hw n (List.mem_of_mem_take hn),Nat.le_trans hl hm⟩
 by_cases h0:len=0
 . subst h0
   exact .inl (by simp)
 obtain ⟨b,off,spot⟩:=x;have hc0:=hc 0 (by omega);have hspot:spot=none:=by simpa [Addr.add] using World.cell?_spot hc0
 subst hspot;refine .inr ⟨b,off,rfl,World.block_lt_of_cell? w _ hc0,fun i hi=>?_⟩
 have hi':i<len:=by omega
 have:=hc i (by omega);have ea:(⟨b,off,none⟩:Addr).add i=⟨b,off+i,none⟩:=by unfold Addr.add;split<;>simp_all
 rw [ea] at this;rw [List.getD_eq_getElem?_getD,List.getElem?_take,if_pos hi',←List.getD_eq_getElem?_getD];exact this
structure But (lo hi:Nat) (w w':World):Prop where
 os:w'.os=w.os
 tape:w'.tape=w.tape
 output:w'.output=w.output
 size:w.heap.size<=w'.heap.size
 block:∀k,k<w.heap.size->(k<lo∨hi<=k)->w'.heap[k]?=w.heap[k]?
theorem But.refl (lo hi:Nat) (w:World):But lo hi w w:=⟨rfl,rfl,rfl,Nat.le_refl _,fun _ _ _=>rfl⟩
theorem But.trans {lo hi:Nat} {a b c:World} (h:But lo hi a b) (k:But lo hi b c):But lo hi a c:=
 ⟨k.os.trans h.os,k.tape.trans h.tape,k.output.trans h.output,Nat.le_trans h.size k.size,fun i hi' ho=>(k.block i (Nat.lt_of_lt_of_le hi' h.size) ho).trans (h.block i hi' ho)⟩
theorem But.below {lo hi B:Nat} {w w':World} (h:But lo hi w w') (hB:B<=lo) (hw:B<=w.heap.size):Below B w w':=
 ⟨h.os,h.tape,h.output,h.size,fun k hk=>h.block k (by omega) (.inl (by omega))⟩
theorem But.of_grown {lo hi g:Nat} {w w':World} (h:w.grownBy w' (some g)) (h1:lo<=g) (h2:g<hi):But lo hi w w':=
 ⟨h.os,h.tape,h.output,h.size,fun k hk ho=>h.block k hk (by intro e;simp at e;omega)⟩
theorem Below.andBut {w w1 w2:World} {lo hi:Nat} (h:Below w.heap.size w w1) (k:But lo hi w1 w2) (hlo:w.heap.size<=lo):Below w.heap.size w w2:=
 h.trans (k.below hlo h.size)
def Own (k:IntKind) (E:TypeId) (w:World) (lo hi:Nat) (v:Value) (zs:List Int):Prop:=
 bk k E w lo v zs/\∀g,v.ownBlock=some g->g<hi
theorem bk.own {k:IntKind} {E:TypeId} {w:World} {lo:Nat} {v:Value} {zs:List Int} (h:bk k E w lo v zs):Own k E w lo w.heap.size v zs:=
 ⟨h,fun g hg=>(World.ownsRow.lt h g hg).2⟩
theorem Own.reads {k:IntKind} {E:TypeId} {w:World} {lo hi n cap:Nat} {a:Option Addr} {zs:List Int} (h:Own k E w lo hi (.slice a n cap) zs):aJ k w a zs:=h.1.reads
theorem Own.below {k:IntKind} {E:TypeId} {w w':World} {lo hi:Nat} {v:Value} {zs:List Int} (h:Own k E w lo hi v zs) (hb:Below w.heap.size w w'):Own k E w' lo hi v zs:=
 ⟨h.1.below hb (Nat.le_refl _),h.2⟩
theorem Own.same {k:IntKind} {E:TypeId} {w w':World} {lo hi:Nat} {v:Value} {zs:List Int} (h:Own k E w lo hi v zs) (hs:aP w w'):Own k E w' lo hi v zs:=h.below (hs.below _)
theorem Own.but {k:IntKind} {E:TypeId} {w w':World} {lo hi l h':Nat} {v:Value} {zs:List Int} (h:Own k E w lo hi v zs) (hb:But l h' w w') (hd:hi<=l∨h'<=lo):Own k E w' lo hi v zs:=by
 refine ⟨⟨h.1.1,?_⟩,h.2⟩
 rcases h.1.2 with h2|⟨g,cap,cur,hv,hbg,hg,r⟩
 . exact .inl h2
 have hlt:g<w.heap.size:=(Array.getElem?_eq_some_iff.1 hg).1;have hhi:g<hi:=h.2 g (by rw [hv];rfl);exact .inr ⟨g,cap,cur,hv,hbg,by rw [hb.block g hlt (by omega)];exact hg,r⟩
theorem Own.shape {k:IntKind} {E:TypeId} {w:World} {lo hi:Nat} {v:Value} {zs:List Int} (h:Own k E w lo hi v zs):∃a cap,v=.slice a zs.length cap:=by
 obtain ⟨a,cap,hv,_⟩:=h.1.shape;exact ⟨a,cap,hv⟩
theorem Own.length {k:IntKind} {E:TypeId} {w:World} {lo hi n cap:Nat} {a:Option Addr} {zs:List Int} (h:Own k E w lo hi (.slice a n cap) zs):zs.length=n:=by
 obtain ⟨a',cap',hv⟩:=h.shape;simp only [Value.slice.injEq] at hv
 exact hv.2.1.symm
theorem Own.cases {k:IntKind} {E:TypeId} {w:World} {lo hi n cap:Nat} {a:Option Addr} {zs:List Int} (h:Own k E w lo hi (.slice a n cap) zs):
 n=0∨∃g,a=some ⟨g,0,none⟩/\lo<=g/\g<hi:=by
 rcases h.1.2 with ⟨hv,hn⟩|⟨g,cap',cur,hv,hbg,hg,r⟩
 . simp only [Value.slice.injEq] at hv
   exact .inl hv.2.1
 simp only [Value.slice.injEq] at hv
 exact .inr ⟨g,hv.1,hbg,h.2 g (by rw [hv.1];rfl)⟩
theorem Own.store {k:IntKind} {E:TypeId} {w:World} {lo hi n cap g:Nat} {zs:List Int} (h:Own k E w lo hi (.slice (some ⟨g,0,none⟩) n cap) zs) (j:Nat) (hj:j<n) (x:Int):
 w.cell? ⟨g,j,none⟩=some (.int k (zs.getD j 0))/\w.frozen? ⟨g,j,none⟩=false /\
 Own k E (w.setCell ⟨g,j,none⟩ (.int k x)) lo hi (.slice (some ⟨g,0,none⟩) n cap) (zs.set j x)/\But lo hi w (w.setCell ⟨g,j,none⟩ (.int k x)):=by
 have hl:=h.length;have h1:w.ownsRow lo E 1 (.slice (some ⟨g,0,none⟩) n cap) n (zs.map (Value.int k)):=by have:=h.1;unfold bk at this;rw [hl] at this;exact this
 have hg1:lo<=g:=(World.ownsRow.lt h1 g rfl).1;have hg2:g<hi:=h.2 g rfl;refine ⟨?_,h1.frozenAt j,⟨?_,h.2⟩,But.of_grown (h1.stored j _).2 hg1 hg2⟩
 . rw [h1.cellAt j (by omega)]
   simp [List.getElem?_eq_getElem (show j<zs.length by omega)]
 have:=(h1.stored j (.int k x)).1;unfold bk;rw [List.length_set,hl,List.map_set];exact this
theorem aJ.cells {k:IntKind} {w:World} {ad:Addr} {ys:List Int} (h:aJ k w (some ad) ys):∀j u,(ys.map (Value.int k))[j]?=some u->w.cell? (ad.add j)=some u:=by
 intro j u hu;rw [List.getElem?_map] at hu;rcases h with h|⟨b,off,ha,hlt,hc⟩
 . subst h
   simp at hu
 simp at ha
 subst ha;have hj:j<ys.length:=by
  by_cases hj:j<ys.length
  . exact hj
  rw [List.getElem?_eq_none (by omega)] at hu;simp at hu
 rw [List.getElem?_eq_getElem hj] at hu;simp at hu
 have ea:(⟨b,off,none⟩:Addr).add j=⟨b,off+j,none⟩:=by unfold Addr.add;split<;>simp_all
 rw [ea,hc j hj,←hu];simp [List.getElem?_eq_getElem hj]
theorem jH {k:IntKind} (ys:List Int):∀u∈ys.map (Value.int k),u.oneCell'=true:=by
 intro u hu;obtain ⟨n,_,rfl⟩:=List.mem_map.1 hu;rfl
theorem aJ.new (k:IntKind) (w:World) (E:TypeId) (ys:List Int) (cs:Array Value) (h:cs=(ys.map (Value.int k)).toArray):aJ k (w.alloc (.cells cs E)) (some ⟨w.heap.size,0,none⟩) ys:=by
 refine .inr ⟨w.heap.size,0,rfl,by simp,fun i hi=>?_⟩
 rw [cell_of_row (w.alloc (.cells cs E)) w.heap.size (0+i) cs E (0,0) (heap_alloc_new w _),h];simp [List.getElem?_eq_getElem hi]
theorem bk.alloc {k:IntKind} {E:TypeId} {w:World} {lo:Nat} {v:Value} {zs:List Int} (h:bk k E w lo v zs) (o:Obj):bk k E (w.alloc o) lo v zs:=World.ownsRow.alloc h o
theorem bk.drewN {k:IntKind} {E:TypeId} {w:World} {lo:Nat} {v:Value} {zs:List Int} (h:bk k E w lo v zs) (n:Nat):bk k E (w.drewN n) lo v zs:=h
theorem bk.drew {k:IntKind} {E:TypeId} {w:World} {lo:Nat} {v:Value} {zs:List Int} (h:bk k E w lo v zs):bk k E w.drew lo v zs:=h
theorem bk.grown {k:IntKind} {E:TypeId} {w w':World} {lo:Nat} {v:Value} {zs:List Int} (h:bk k E w lo v zs) (hg:w.grownBy w' none):bk k E w' lo v zs:=World.ownsRow.kept h hg (by cases hv:v.ownBlock<;>simp)
theorem dt {P:Program} {w:World} {ops:Array Oper} {rest:List Oper} {o:Oper} {a:Act} {Q:Exit->Act->World->Prop} (k:IntKind) (hgd:o.guard=none) (s x:Operand) (t:TypeId)
 (ho:o.op=.call { callee:=.builtin .append,args:=#[s,x],argTypes:=#[t,t] })
 (lo:Nat) (E:TypeId) (i:TypeInfo) (z:Value) (bytes:Nat) (ht:P.underlying t=some (.slice E)) (hi:P.info? E=some i) (hz:i.zero=some z)
 (hsize:i.size=1) (hby:i.bytes=bytes) (hzs:z.cells.size=1)
 (v:Value) (zs:List Int) (hs:a.eval s=v) (hown:bk k E w lo v zs)
 (ad:Addr) (m c:Nat) (ys:List Int) (hx:a.eval x=.slice (some ad) m c) (hl:ys.length=m) (hr:aJ k w (some ad) ys)
 (h63:zs.length+m<=maxLen) (hbytes:(zs.length+m)*bytes<=140737488355328) (hbase:lo<=w.heap.size)
 (h:∀v' w',bk k E w' lo v' (zs++ys)->Below lo w w'->wpList P ops Q rest (a.put o.dst v') w'):wpList P ops Q (o :: rest) a w:=by
 refine wpList_append_own w hgd s x t ho lo E i z 1 bytes ht hi hz hsize hby hzs (by decide) v zs.length (zs.map (Value.int k)) hs hown ad m c (ys.map (Value.int k)) hx (by simp [hl]) hr.cells (jH ys) h63 hbytes hbase ?_
 intro v' w' h1 h2 _;refine h v' w' ?_ ((Below.refl _ _).grown h2 hbase (fun g hg=>(World.ownsRow.lt hown g hg).1))
 unfold bk;rw [List.map_append,List.length_append,hl];exact h1
theorem bk.lit (k:IntKind) (E:TypeId) (w:World) (ys:List Int) (n:Nat) (cs:Array Value) (h:cs=(ys.map (Value.int k)).toArray) (hn:ys.length=n) (hm:n<=maxLen):bk k E (w.alloc (.cells cs E)) w.heap.size (.slice (some ⟨w.heap.size,0,none⟩) n n) ys:=by
 have:=World.ownsRow_lit (base:=w.heap.size) (e:=E) (size:=1) w cs n (Nat.le_refl _) hm (by rw [h];simp [hn]);unfold bk;rw [hn];rw [h] at this;rw [h];simpa using this
theorem bk.take {k:IntKind} {E:TypeId} {w:World} {lo n:Nat} {v:Value} {zs ps:List Int} (h:bk k E w lo v zs) (hp:zs=ps) (hn:ps.length=n):
 ∃a cap,v=.slice a n cap/\Own k E w lo w.heap.size (.slice a n cap) ps:=by
 subst hp;obtain ⟨a,cap,hv,_⟩:=h.shape;rw [hn] at hv;exact ⟨a,cap,hv,by rw [←hv];exact h.own⟩
theorem But.setCell {lo hi g j:Nat} {w:World} (h1:lo<=g) (h2:g<hi) (u:Value):But lo hi w (w.setCell ⟨g,j,none⟩ u):=
 ⟨rfl,rfl,rfl,by simp [World.setCell],fun k _ ho=>Below.heap_setCell _ _ _ _ (by simp;omega)⟩
theorem But.drewN {lo hi:Nat} {a w:World} (h:But lo hi a w) (n:Nat):But lo hi a (w.drewN n):=⟨h.os,h.tape,h.output,h.size,h.block⟩
theorem But.of_below {lo hi:Nat} {w w':World} (h:Below w.heap.size w w'):But lo hi w w':=⟨h.os,h.tape,h.output,h.size,fun k hk _=>h.block k hk⟩
theorem But.alloc {lo hi:Nat} {a w:World} (h:But lo hi a w) (o:Obj):But lo hi a (w.alloc o):=h.trans (But.of_below ((Below.refl _ _).alloc (Nat.le_refl _) o))
theorem But.thenBelow {lo hi:Nat} {w0 wr w1:World} (h:But lo hi w0 wr) (k:Below w0.heap.size wr w1):But lo hi w0 w1:=
 ⟨k.os.trans h.os,k.tape.trans h.tape,k.output.trans h.output,Nat.le_trans h.size k.size,fun i hi' ho=>(k.block i hi').trans (h.block i hi' ho)⟩
theorem aa {p:Prop} (h:p):Hid p:=h
theorem af (w:World) (o:Obj):Below w.heap.size w (w.alloc o):=(Below.refl _ _).alloc (Nat.le_refl _) _
def inB (x least most:Int):Bool:=decide (least<=x)&&decide (x<=most)
theorem aE (x least most:Int) (w:World):Calls Tryz.prog 34 #[.int .i64 x,.int .i64 least,.int .i64 most] w fun e w'=>e=.returned (.bool (inB x least most))/\w'=w:=by
 unfold inB;by_cases h0:least<=x
 . by_cases h1:x<=most
   . go_enter Tryz.func34,Tryz.ntmps34
     go_wp2
     go_ret
     exact ⟨ah (by simp [h0,h1]),rfl⟩
   go_enter Tryz.func34,Tryz.ntmps34
   go_wp2
   go_ret
   exact ⟨ah (by symm;simp;omega),rfl⟩
 go_enter Tryz.func34,Tryz.ntmps34
 go_wp2
 go_ret
 exact ⟨ah (by symm;simp;omega),rfl⟩
theorem cg (x least most:Int) (w:World):Calls Tryz.prog 25 #[.int .i64 x,.int .i64 least,.int .i64 most] w fun e w'=>e=.returned (.bool (inB x least most))/\w'=w:=by
 unfold inB;by_cases h0:least<=x
 . by_cases h1:x<=most
   . go_enter Tryz.func25,Tryz.ntmps25
     go_wp2
     go_ret
     exact ⟨ah (by simp [h0,h1]),rfl⟩
   go_enter Tryz.func25,Tryz.ntmps25
   go_wp2
   go_ret
   exact ⟨ah (by symm;simp;omega),rfl⟩
 go_enter Tryz.func25,Tryz.ntmps25
 go_wp2
 go_ret
 exact ⟨ah (by symm;simp;omega),rfl⟩
theorem Tryz.info3:(Tryz.prog.info? 3).map (fun i=>(i.zero,i.size,i.bytes))=some (some (.int .i64 0),1,8):=by kernel_rfl
theorem xg {zs:List Int} (h:∀n∈zs,0<=n/\n<=255) (j:Nat):0<=zs.getD j 0/\zs.getD j 0<=255:=by
 by_cases hj:j<zs.length
 . have:=h zs[j] (List.getElem_mem hj)
   simpa [List.getElem?_eq_getElem hj] using this
 rw [List.getD_eq_getElem?_getD,List.getElem?_eq_none (by omega)];simp
theorem eY (w:World) (a b:Option Addr) (la lb ca cb:Nat) (xs ys:List Int) (hla:xs.length=la) (hlb:ys.length=lb) (hx:aJ .i64 w a xs) (hy:aJ .i64 w b ys) (hlen:la<=2097152):
 Calls Tryz.prog 16 #[.slice a la ca,.slice b lb cb] w fun e w'=>e=.returned (.bool (decide (xs=ys)))/\aP w w':=by
 by_cases hl:la=lb
 . subst hl
   go_enter Tryz.func16,Tryz.ntmps16
   go_wp2
   go_loopw [5] (fun i wr=>∃j:Nat,j<=la/\i=.int .i64 j/\xs.take j=ys.take j/\aP w wr) (fun i _=>la-(intOf i).toNat)
   case atStart=>exact ⟨0,Nat.zero_le _,rfl,rfl,aP.refl _⟩
   obtain ⟨j,hj,rfl,ht,hs⟩:=hrel;by_cases hlt:j<la
   . rcases hx.cases with h0|⟨bx,ox,rfl,hbx,hcx⟩
     . omega
     rcases hy.cases with h0|⟨bz,oy,rfl,hby,hcy⟩
     . omega
     have hx1:=(hs.cell ⟨bx,ox+j,none⟩).trans (hcx j (by omega));have hy1:=(hs.cell ⟨bz,oy+j,none⟩).trans (hcy j (by omega));have hd:=rf (xs:=xs) (ys:=ys) (j:=j) (by omega) (by omega);generalize xs.getD j 0=x at hx1 hd;generalize ys.getD j 0=y at hy1 hd;have HT:Hid (xs.take j=ys.take j):=ht;clear hcx hcy ht;by_cases hxy:x=y
     . subst hxy
       have HD:=hd.1 rfl HT.out;clear hd;go_wp2
       go_quiet (fail)
       go_wp2
       go_roundw
       case rel=>exact ⟨j+1,by omega,by go_num,HD,hs.drewN _⟩
       case measure=>simp [intOf];omega
     have hne:(x==y)=false:=by simpa using hxy
     have HN:=hd.2 hxy;clear hd;go_wp2
     go_quiet (fail)
     go_wp2
     go_ret
     exact ⟨ah (by simpa using HN),hs.drewN _⟩
   go_wp2
   go_ret
   have e:j=la:=by omega
   subst e;rw [List.take_of_length_le (by omega),List.take_of_length_le (by omega)] at ht;exact ⟨ah (by simp [ht]),hs⟩
 have hne:((la:Int)==(lb:Int))=false:=by simp;omega
 go_enter Tryz.func16,Tryz.ntmps16
 go_wp2
 go_ret
 exact ⟨ah (by simp;intro h;apply hl;rw [←hla,←hlb,h]),aP.refl _⟩
def ao (P:Program) (ops:Array Oper) (Q:Exit->Act->World->Prop) (S:World->Prop) (k:Nat):Nat->Array Bool->Act->World->Prop
 | 0,l,a,w=>Region.ready .any ops l=[]/\Q .normal a w
 | n+1,l,a,w=>(Region.ready .any ops l=[]->Q .normal a w)/\∀j∈Region.ready .any ops l,wpOp P ops Q j (fun a' w'=>(j≠k->S w')/\ao P ops Q S k n (l.setIfInBounds j true) a' w') a w
section
variable {P:Program} {ops:Array Oper} {Q:Exit->Act->World->Prop} {S:World->Prop} {k:Nat}
theorem ao.any:∀(n:Nat) (l:Array Bool) (a:Act) (w:World),ao P ops Q S k n l a w->wpAny P .any ops Q n l a w
 | 0,_,_,_,h=>h
 | n+1,_,_,_,h=>⟨h.1,fun j hj=>wpOp_mono (fun a' w' h'=>ao.any n _ a' w' h'.2) (h.2 j hj)⟩
theorem ao.start {id:Nat} {a:Act} {w:World} (hm:P.follows .mixedOrders=true) (h:ao P ops Q S k ops.size (Array.replicate ops.size false) a w.drew):(Code.region id ops true).wp P Q a w:=
 wp_region_any hm (ao.any _ _ _ _ h)
theorem ni {l:Array Bool} {i:Nat} (h0:l.getD i true=false) (h1:l.getD i false=true):False:=by
 by_cases hi:i<l.size
 . simp [hi] at h0 h1
   rw [h0] at h1;cases h1
 simp [Array.getElem?_eq_none (Nat.le_of_not_lt hi)] at h1
theorem ao.first {i:Nat} {oi ok:Oper} {v:Value} (hi:ops[i]?=some oi) (hk:ops[k]?=some ok) (hki:∃e∈ok.after,Region.binds .any e=true/\e.on=i)
 (hsel:∀(j:Nat) (o:Oper) cs b,ops[j]?=some o->o.op≠.select cs b) (hQ:∀c a w,Q (.panic c) (a.put oi.dst v) w->Q (.panic c) a w) (n:Nat):
 ∀(l:Array Bool) (a:Act) (w:World),
  (∀j oj,ops[j]?=some oj->j≠i->l.getD j true=false->(∀e∈oj.after,Region.binds .any e=true->e.on≠i)->oi.apart ops oj=true) ->
  i∈Region.ready .any ops l->YieldsIf P ops S oi v a->S w->ao P ops Q S k n (l.setIfInBounds i true) (a.put oi.dst v) w->ao P ops Q S k (n+1) l a w:=by
 induction n with
 | zero=>
  intro l a w _ hr hy hS H;constructor
  . intro h
    rw [h] at hr;simp at hr
  intro j hj;by_cases hji:j=i
  . rw [hji]
    exact hy.wpOp hi hS ⟨fun _=>hS,H⟩
  have h2:=ready_mono (i:=i) hj hji;rw [H.1] at h2;simp at h2
 | succ n ih=>
  intro l a w hfree hr hy hS H;constructor
  . intro h
    rw [h] at hr;simp at hr
  intro j hj;by_cases hji:j=i
  . rw [hji]
    exact hy.wpOp hi hS ⟨fun _=>hS,H⟩
  obtain ⟨hju,oj,hoj,hall⟩:=mem_ready.1 hj;have hiu:=(mem_ready.1 hr).1;have hno:∀e∈oj.after,Region.binds .any e=true->e.on≠i:=fun e he hb hon=>ni hiu (hon▸hall e he hb);have hjk:j≠k:=by
   intro hjk;rw [hjk,hk] at hoj;obtain ⟨e,he,hb,hon⟩:=hki;cases hoj;exact hno e he hb hon
  have h1:=H.2 j (ready_mono hj hji);have h2:=wpOp_putIf hoj (hfree j oj hoj hji hju hno) (fun cs b=>hsel i oi cs b hi) (fun cs b=>hsel j oj cs b hoj) hQ hy h1;refine wpOp_mono ?_ h2
  intro a' w' h3;have hS':=h3.2.1 hjk;refine ⟨fun _=>hS',ih _ a' w' ?_ (ready_mono hr (Ne.symm hji)) h3.1 hS' ?_⟩
  . intro m om hm hmi hun hnm
    refine hfree m om hm hmi ?_ hnm
    by_cases hjm:j=m
    . rw [←hjm]
      exact hju
    rw [getD_set_ne true hjm] at hun;exact hun
  rw [Array.setIfInBounds_comm _ _ hji];exact h3.2.2
theorem il {i:Nat} {o:Oper} {tl:List Oper} (h:ops.toList.drop i=o :: tl):ops[i]?=some o:=by
 have h1:(ops.toList.drop i)[0]?=some o:=by rw [h];rfl
 rw [List.getElem?_drop] at h1;simpa using h1
theorem ao.take {i:Nat} {oi:Oper} {v:Value} {n:Nat} {l:Array Bool} {a:Act} {w:World} {tl:List Oper} (hi':ops.toList.drop i=oi :: tl)
 (hki:((ops[k]?).map fun o=>o.after.any fun e=>Region.binds .any e&&e.on==i)=some true) (hs:Region.noSelect ops=true) (hf:Region.free .any ops l i=true) (hr:(Region.ready .any ops l).contains i=true)
 (hQ:∀c a w,Q (.panic c) (a.put oi.dst v) w->Q (.panic c) a w) (hy:YieldsIf P ops S oi v a) (hS:S w) (h:ao P ops Q S k n (l.setIfInBounds i true) (a.put oi.dst v) w):ao P ops Q S k (n+1) l a w:=by
 have hi:=il hi';cases hk:ops[k]? with
 | none=>rw [hk] at hki;cases hki
 | some ok=>
  rw [hk] at hki;simp only [Option.map_some,Option.some.injEq,Array.any_eq_true',Bool.and_eq_true,beq_iff_eq] at hki
  exact ao.first hi hk hki (Region.noSelect_spec hs) hQ n l a w (Region.free_spec hi hf) (by simpa using hr) hy hS h
theorem ao.one {i:Nat} {o:Oper} {n:Nat} {l:Array Bool} {a:Act} {w:World} {tl:List Oper} (hr:Region.ready .any ops l=[i]) (ho:ops.toList.drop i=o :: tl)
 (h:∀K':Act->World->Prop,Shut (∀a w,(i≠k->S w)->ao P ops Q S k n (l.setIfInBounds i true) a w->K' a w)->if Region.wanted o (yielded ops a.tmps)=true then Oper.wp P o a w K' Q else K' (a.put o.dst undef) w):ao P ops Q S k (n+1) l a w:=by
 constructor
 . intro h0
   rw [hr] at h0;simp at h0
 intro j hj;rw [hr] at hj;simp at hj
 rw [hj];exact wpOp_step (il ho) (fun K' hK=>h K' (fun a w hS hW=>hK a w ⟨hS,hW⟩))
theorem ao.done {l:Array Bool} {a:Act} {w:World} (hr:Region.ready .any ops l=[]) (h:Q .normal a w):∀n,ao P ops Q S k n l a w
 | 0=>⟨hr,h⟩
 | _+1=>⟨fun _=>h,by rw [hr];simp⟩
end
variable {P:Program} {ops:Array Oper} {Q:Exit->Act->World->Prop} {S:World->Prop}
theorem aI {i:Nat} {oi:Oper} {v:Value} {fuel:Nat} {l:Array Bool} {a:Act} {w:World} {tl:List Oper} (hi:ops.toList.drop i=oi :: tl)
 (hs:Region.noSelect ops=true) (hf:Region.free .any ops l i=true) (hr:(Region.ready .any ops l).contains i=true)
 (hQ:∀c a w,Q (.panic c) (a.put oi.dst v) w->Q (.panic c) a w) (hw:Region.wanted oi (yielded ops a.tmps)=true) (hy:∀w,S w->(execOp a.eval oi).run P w=.ok (.value v) w) (hS:S w)
 (h:wpAnyH P .any ops Q S fuel (l.setIfInBounds i true) (a.put oi.dst v) w):wpAnyH P .any ops Q S (fuel+1) l a w:=
 wpAnyH_take (il hi) hs hf hr hQ (Or.inl ⟨hw,hy⟩) hS h
theorem um {i:Nat} {oi:Oper} {fuel:Nat} {l:Array Bool} {a:Act} {w:World} {tl:List Oper} (hi:ops.toList.drop i=oi :: tl)
 (hs:Region.noSelect ops=true) (hf:Region.free .any ops l i=true) (hr:(Region.ready .any ops l).contains i=true)
 (hQ:∀c a w,Q (.panic c) (a.put oi.dst undef) w->Q (.panic c) a w) (hw:Region.wanted oi (yielded ops a.tmps)=false) (hS:S w)
 (h:wpAnyH P .any ops Q S fuel (l.setIfInBounds i true) (a.put oi.dst undef) w):wpAnyH P .any ops Q S (fuel+1) l a w:=
 wpAnyH_take (il hi) hs hf hr hQ (Or.inr ⟨hw,rfl⟩) hS h
theorem aw {i:Nat} {o:Oper} {fuel:Nat} {l:Array Bool} {a:Act} {w:World} {tl:List Oper} (hr:Region.ready .any ops l=[i]) (ho:ops.toList.drop i=o :: tl) (hw:Region.wanted o (yielded ops a.tmps)=true)
 (h:∀K':Act->World->Prop,Shut (∀a w,S w->(S w->wpAnyH P .any ops Q S fuel (l.setIfInBounds i true) a w)->K' a w)->Oper.wp P o a w K' Q):wpAnyH P .any ops Q S (fuel+1) l a w:=
 wpAnyH_ready hr (by simp) (AllReadyH.cons (il ho) (fun K' hK=>by rw [if_pos hw];exact h K' hK) AllReadyH.nil)
theorem ae (i:Nat) {oi:Oper} {v:Value} {fuel:Nat} {l:Array Bool} {a a':Act} {w:World} {tl:List Oper} (hS:S w) (h:wpAnyH P .any ops Q S fuel (l.setIfInBounds i true) a' w) (hi:ops.toList.drop i=oi :: tl:=by rfl)
 (hs:Region.noSelect ops=true:=by kernel_rfl) (hf:Region.free .any ops l i=true:=by kernel_rfl) (hr:(Region.ready .any ops l).contains i=true:=by kernel_rfl)
 (hQ:∀c a w,Q (.panic c) (a.put oi.dst v) w->Q (.panic c) a w:=by exact fun _ _ _ h=>h) (hw:Region.wanted oi (yielded ops a.tmps)=true:=by kernel_rfl)
 (hy:∀w,S w->(execOp a.eval oi).run P w=.ok (.value v) w:=by (intro w hSw;(try dsimp only at hSw);go_split_ands;go_simp;first|done|with_reducible rfl))
 (ha:a.put oi.dst v=a':=by (simp only [Act.put,List.setIfInBounds_toArray,List.set_cons_zero,List.set_cons_succ];first|done|rfl)):wpAnyH P .any ops Q S (fuel+1) l a w:=aI hi hs hf hr hQ hw hy hS (ha▸h)
theorem gp {i:Nat} {o:Oper} {fuel:Nat} {l:Array Bool} {a:Act} {w:World} {tl:List Oper} (hr:Region.ready .any ops l=[i]) (ho:ops.toList.drop i=o :: tl) (hw:Region.wanted o (yielded ops a.tmps)=false) (hS:S w)
 (h:wpAnyH P .any ops Q S fuel (l.setIfInBounds i true) (a.put o.dst undef) w):wpAnyH P .any ops Q S (fuel+1) l a w:=
 wpAnyH_ready hr (by simp) (AllReadyH.cons (il ho) (fun K' hK=>by rw [if_neg (by rw [hw];simp)];exact hK _ _ hS (fun _=>h)) AllReadyH.nil)
theorem ao.t {k:Nat} (i:Nat) {oi:Oper} {v:Value} {n:Nat} {l:Array Bool} {a a':Act} {w:World} {tl:List Oper} (hS:S w) (h:ao P ops Q S k n (l.setIfInBounds i true) a' w) (hi:ops.toList.drop i=oi :: tl:=by rfl)
 (hki:((ops[k]?).map fun o=>o.after.any fun e=>Region.binds .any e&&e.on==i)=some true:=by kernel_rfl) (hs:Region.noSelect ops=true:=by kernel_rfl) (hf:Region.free .any ops l i=true:=by kernel_rfl) (hr:(Region.ready .any ops l).contains i=true:=by kernel_rfl)
 (hQ:∀c a w,Q (.panic c) (a.put oi.dst v) w->Q (.panic c) a w:=by exact fun _ _ _ h=>h) (hw:Region.wanted oi (yielded ops a.tmps)=true:=by rfl) (hy:∀w,S w->(execOp a.eval oi).run P w=.ok (.value v) w:=by (intro w hSw;(try dsimp only at hSw);go_split_ands;go_simp;first|done|with_reducible rfl)) (ha:a.put oi.dst v=a':=by (simp only [Act.put,List.setIfInBounds_toArray,List.set_cons_zero,List.set_cons_succ];first|done|rfl)):ao P ops Q S k (n+1) l a w:=
 ao.take hi hki hs hf hr hQ (Or.inl ⟨hw,hy⟩) hS (ha▸h)
theorem au (i:Nat) {oi:Oper} {fuel:Nat} {l:Array Bool} {a a':Act} {w:World} {tl:List Oper} (hS:S w) (h:wpAnyH P .any ops Q S fuel (l.setIfInBounds i true) a' w) (hi:ops.toList.drop i=oi :: tl:=by rfl)
 (hs:Region.noSelect ops=true:=by kernel_rfl) (hf:Region.free .any ops l i=true:=by kernel_rfl) (hr:(Region.ready .any ops l).contains i=true:=by kernel_rfl)
 (hQ:∀c a w,Q (.panic c) (a.put oi.dst undef) w->Q (.panic c) a w:=by exact fun _ _ _ h=>h) (hw:Region.wanted oi (yielded ops a.tmps)=false:=by kernel_rfl)
 (ha:a.put oi.dst undef=a':=by (simp only [Act.put,List.setIfInBounds_toArray,List.set_cons_zero,List.set_cons_succ];first|done|rfl)):wpAnyH P .any ops Q S (fuel+1) l a w:=um hi hs hf hr hQ hw hS (ha▸h)
def isW (n:Int):Bool:=decide (0<=n)&&decide (n<=65535)
def dg (l:List Int):Bool:=l.all isW
def cR (l:List Int):Bool:=decide (l.length<=12)&&dg l
theorem pO {zs:List Int} {j:Nat} {x:Int} (h:j<zs.length) (hx:zs.getD j 0=x):
 (isW x=true->dg (zs.take j)=true->dg (zs.take (j+1))=true)/\(isW x=false->dg zs=false):=by
 have e:zs[j]=x:=by rw [←hx];simp [List.getElem?_eq_getElem h]
 refine ⟨fun h1 h2=>?_,fun h1=>?_⟩
 . unfold dg at *
   rw [List.take_succ_eq_append_getElem h,List.all_append,h2,e];simp [h1]
 unfold dg;rw [List.all_eq_false];exact ⟨x,by rw [←e];exact List.getElem_mem h,by simp [h1]⟩
end Go.Proofs.YtgjomldcnjjpaaaGreat
