/-
 The walks of both SecOk (the program's and the specification's) and of what they call: each answers whether there are at most twelve numbers and each of them is a word. Condition: at most 2097152 elements.
-/
import Derived.WalkKit
import Derived.WalkSpells
import Derived.WalkLawsBesides
import Derived.Handy
import Derived.BigQuiet
import Derived.Deep.QuietTactic
import Derived.Deep.RegionHeld3
import Derived.Deep.AppendLies
import Derived.Test.YtfimpohbpccjaaaGreatRows

set_option maxRecDepth 100000
set_option maxHeartbeats 8000000
set_option linter.unusedSimpArgs false

namespace Go.Proofs.YtfimpohbpccjaaaGreat
open Go.RowKit

def aQ (k:IntKind) (w:World) (a:Option Addr) (zs:List Int):Prop:=
 zs=[]∨∃b off,a=some ⟨b,off,none⟩/\b<w.heap.size/\∀i,i<zs.length->w.cell? ⟨b,off+i,none⟩=some (.int k (zs.getD i 0))
theorem aQ.below {k:IntKind} {w w':World} {a:Option Addr} {zs:List Int} (h:aQ k w a zs) (hb:Below w.heap.size w w'):aQ k w' a zs:=by
 rcases h with h|⟨b,off,ha,hlt,hc⟩
 . exact .inl h
 refine .inr ⟨b,off,ha,Nat.lt_of_lt_of_le hlt hb.size,fun i hi=>?_⟩
 rw [hb.cell (p:=⟨b,off+i,none⟩) hlt];exact hc i hi
theorem aQ.draw {k:IntKind} {w:World} {a:Option Addr} {zs:List Int} (h:aQ k w a zs):aQ k w.drew a zs:=h
theorem aQ.old {k:IntKind} {w w':World} {a:Option Addr} {zs:List Int} {B:Nat} (h:aQ k w a zs) (hB:∀x,a=some x->x.block<B) (hb:Below B w w'):aQ k w' a zs:=by
 rcases h with h|⟨b,off,ha,hlt,hc⟩
 . exact .inl h
 refine .inr ⟨b,off,ha,Nat.lt_of_lt_of_le hlt hb.size,fun i hi=>?_⟩
 have hx:b<B:=hB _ ha;rw [hb.cell (p:=⟨b,off+i,none⟩) hx];exact hc i hi
structure aG (w w':World):Prop where
 os:w'.os=w.os
 tape:w'.tape=w.tape
 output:w'.output=w.output
 heap:w'.heap=w.heap
theorem aG.refl (w:World):aG w w:=⟨rfl,rfl,rfl,rfl⟩
theorem aG.trans {a b c:World} (h:aG a b) (k:aG b c):aG a c:=⟨k.os.trans h.os,k.tape.trans h.tape,k.output.trans h.output,k.heap.trans h.heap⟩
theorem aG.drew {a w:World} (h:aG a w):aG a w.drew:=⟨h.os,h.tape,h.output,h.heap⟩
theorem aG.drewN {a w:World} (h:aG a w) (n:Nat):aG a (w.drewN n):=⟨h.os,h.tape,h.output,h.heap⟩
theorem aG.below {w w':World} (h:aG w w') (B:Nat):Below B w w':=⟨h.os,h.tape,h.output,by rw [h.heap];exact Nat.le_refl _,fun _ _=>by rw [h.heap]⟩
theorem aG.cell {w w':World} (h:aG w w') (p:Addr):w'.cell? p=w.cell? p:=(h.below (p.block+1)).cell (Nat.lt_succ_self _)
theorem aG.size {w w':World} (h:aG w w'):w'.heap.size=w.heap.size:=by rw [h.heap]
theorem aQ.same {k:IntKind} {w w':World} {a:Option Addr} {zs:List Int} (h:aQ k w a zs) (hs:aG w w'):aQ k w' a zs:=h.below (hs.below _)
theorem aQ.cases {k:IntKind} {w:World} {a:Option Addr} {zs:List Int} (h:aQ k w a zs):zs.length=0∨∃b off,a=some ⟨b,off,none⟩/\b<w.heap.size/\∀i,i<zs.length->w.cell? ⟨b,off+i,none⟩=some (.int k (zs.getD i 0)):=by
 rcases h with h|h
 . exact .inl (by rw [h];rfl)
 exact .inr h
def aT (k:IntKind) (E:TypeId) (w:World) (base:Nat) (v:Value) (zs:List Int):Prop:=
 w.ownsRow base E 1 v zs.length (zs.map (Value.int k))
theorem aT.shape {k:IntKind} {E:TypeId} {w:World} {base:Nat} {v:Value} {zs:List Int} (h:aT k E w base v zs):
 ∃a cap,v=.slice a zs.length cap/\aQ k w a zs/\(∀x,a=some x->base<=x.block/\x.block<w.heap.size):=by
 rcases h.2 with ⟨hv,hn⟩|⟨g,cap,cur,hv,hb,hg,hnc,hcm,hcs,ht⟩
 . refine ⟨none,0,by rw [hv,hn],.inl (List.eq_nil_of_length_eq_zero hn),by simp⟩
 have hlt:g<w.heap.size:=(Array.getElem?_eq_some_iff.1 hg).1;refine ⟨some ⟨g,0,none⟩,cap,hv,.inr ⟨g,0,rfl,hlt,fun i hi=>?_⟩,?_⟩
 . have h':w.ownsRow base E 1 (.slice (some ⟨g,0,none⟩) zs.length cap) zs.length (zs.map (Value.int k)):=by rw [←hv];exact h
   have:=h'.cellAt i (by omega);rw [Nat.zero_add,this];simp [List.getElem?_eq_getElem hi]
 intro x hx;simp at hx
 subst hx;exact ⟨hb,hlt⟩
theorem aT.below {k:IntKind} {E:TypeId} {w w':World} {base B:Nat} {v:Value} {zs:List Int} (h:aT k E w base v zs) (hb:Below B w w') (hB:w.heap.size<=B):aT k E w' base v zs:=by
 refine ⟨h.1,?_⟩
 rcases h.2 with h2|⟨g,cap,cur,hv,hbg,hg,r⟩
 . exact .inl h2
 have hlt:g<w.heap.size:=(Array.getElem?_eq_some_iff.1 hg).1;exact .inr ⟨g,cap,cur,hv,hbg,by rw [hb.block g (by omega)];exact hg,r⟩
theorem ac {a b:Bool} (h:a=b):Ending.returned (.bool a)=.returned (.bool b):=by rw [h]
theorem ai {k:IntKind} {a b:Int} (h:a=b):Ending.returned (.int k a)=.returned (.int k b):=by rw [h]
theorem dQ (k:IntKind) (n:Nat):(madeCells (Value.int k 0).cells (n*1)).toList=(List.replicate n (0:Int)).map (Value.int k):=by
 apply List.ext_getElem?
 intro i;by_cases h:i<n
 . simp [madeCells,h,Value.cells,Nat.mod_one]
 simp [madeCells,h]
theorem fC (zs:List Int) (j:Nat) (h:j<zs.length):
 (zs.take j++List.replicate (zs.length-j) (0:Int)).set j (zs.getD j 0)=zs.take (j+1)++List.replicate (zs.length-(j+1)) (0:Int):=by
 have e:zs.length-j=(zs.length-(j+1))+1:=by omega
 rw [e,List.replicate_succ];have hl:(zs.take j).length=j:=by simp;omega
 rw [List.set_append,if_neg (by omega),hl,Nat.sub_self,List.set_cons_zero,List.take_succ_eq_append_getElem h,List.append_assoc];have eg:zs.getD j 0=zs[j]:=by simp [List.getElem?_eq_getElem h]
 rw [eg];rfl
theorem fD {xs ys:List Int} {j:Nat} (h1:j<xs.length) (h2:j<ys.length):
 (xs.getD j 0=ys.getD j 0->xs.take j=ys.take j->xs.take (j+1)=ys.take (j+1))/\(xs.getD j 0≠ys.getD j 0->xs≠ys):=by
 refine ⟨fun h ht=>?_,fun h he=>h (by rw [he])⟩
 rw [List.take_succ_eq_append_getElem h1,List.take_succ_eq_append_getElem h2,ht];simp only [List.getD_eq_getElem?_getD,List.getElem?_eq_getElem h1,List.getElem?_eq_getElem h2,Option.getD_some] at h
 rw [h]
theorem gf {k:IntKind} {E:TypeId} {w:World} {base g:Nat} {zs:List Int} {len j:Nat} {x:Int} (hx:zs.getD j 0=x) (hz:zs.length=len) (hj:j<len)
 (h:w.ownsRow base E 1 (.slice (some ⟨g,0,none⟩) len len) len ((zs.take j++List.replicate (len-j) (0:Int)).map (Value.int k))):
 w.cell? ⟨g,j,none⟩=some (.int k 0)/\w.frozen? ⟨g,j,none⟩=false /\
 (w.setCell ⟨g,j,none⟩ (.int k x)).ownsRow base E 1 (.slice (some ⟨g,0,none⟩) len len) len ((zs.take (j+1)++List.replicate (len-(j+1)) (0:Int)).map (Value.int k)):=by
 subst hx;refine ⟨?_,h.frozenAt j,?_⟩
 . rw [h.cellAt j (by omega),List.getElem?_map,List.getElem?_append_right (by simp;omega)]
   rw [List.getElem?_replicate,if_pos (by simp;omega)];rfl
 have:=(h.stored j (.int k (zs.getD j 0))).1;subst hz;rw [←List.map_set,fC zs j hj] at this;exact this
theorem Below.andThen {w w1 w2:World} (h:Below w.heap.size w w1) (k:Below w1.heap.size w1 w2):Below w.heap.size w w2:=h.trans (k.mono h.size)
theorem Below.andSame {w w1 w2:World} (h:Below w.heap.size w w1) (k:aG w1 w2):Below w.heap.size w w2:=h.trans (k.below _)
theorem aT.reads {k:IntKind} {E:TypeId} {w:World} {base n cap:Nat} {a:Option Addr} {zs:List Int} (h:aT k E w base (.slice a n cap) zs):aQ k w a zs:=by
 obtain ⟨a',cap',hv,hr,_⟩:=h.shape;simp only [Value.slice.injEq] at hv
 rw [hv.1];exact hr
def iB (k:IntKind) (w:World) (a:Option Addr) (len cap:Nat) (zs:List Int):Prop:=
 (a=none/\len=0/\cap=0/\zs=[]) ∨
 ∃x,a=some x/\len<=cap/\cap<=maxLen/\zs.length=cap/\(∀i,i<zs.length->w.cell? (x.add i)=some (.int k (zs.getD i 0)))/\∀n∈zs,(Lit.int k n).wf=true
theorem iB.reads {k:IntKind} {w:World} {a:Option Addr} {len cap:Nat} {zs:List Int} (h:iB k w a len cap zs):
 aQ k w a (zs.take len)/\(zs.take len).length=len/\(∀n∈zs.take len,(Lit.int k n).wf=true)/\len<=maxLen:=by
 rcases h with ⟨rfl,rfl,rfl,rfl⟩|⟨x,rfl,hl,hm,hz,hc,hw⟩
 . exact ⟨.inl rfl,rfl,by simp,Nat.zero_le _⟩
 have hlen:(zs.take len).length=len:=by simp;omega
 refine ⟨?_,hlen,fun n hn=>hw n (List.mem_of_mem_take hn),Nat.le_trans hl hm⟩
 by_cases h0:len=0
 . subst h0
   exact .inl (by simp)
 obtain ⟨b,off,spot⟩:=x;have hc0:=hc 0 (by omega);have hspot:spot=none:=by simpa [Addr.add] using World.cell?_spot hc0
 subst hspot;refine .inr ⟨b,off,rfl,World.block_lt_of_cell? w _ hc0,fun i hi=>?_⟩
 have hi':i<len:=by omega
 have:=hc i (by omega);have ea:(⟨b,off,none⟩:Addr).add i=⟨b,off+i,none⟩:=by unfold Addr.add;split<;>simp_all
 rw [ea] at this;rw [List.getD_eq_getElem?_getD,List.getElem?_take,if_pos hi',←List.getD_eq_getElem?_getD];exact this
structure But (lo hi:Nat) (w w':World):Prop where
 os:w'.os=w.os
 tape:w'.tape=w.tape
 output:w'.output=w.output
 size:w.heap.size<=w'.heap.size
 block:∀k,k<w.heap.size->(k<lo∨hi<=k)->w'.heap[k]?=w.heap[k]?
theorem But.refl (lo hi:Nat) (w:World):But lo hi w w:=⟨rfl,rfl,rfl,Nat.le_refl _,fun _ _ _=>rfl⟩
theorem But.trans {lo hi:Nat} {a b c:World} (h:But lo hi a b) (k:But lo hi b c):But lo hi a c:=
 ⟨k.os.trans h.os,k.tape.trans h.tape,k.output.trans h.output,Nat.le_trans h.size k.size,fun i hi' ho=>(k.block i (Nat.lt_of_lt_of_le hi' h.size) ho).trans (h.block i hi' ho)⟩
theorem But.below {lo hi B:Nat} {w w':World} (h:But lo hi w w') (hB:B<=lo) (hw:B<=w.heap.size):Below B w w':=
 ⟨h.os,h.tape,h.output,h.size,fun k hk=>h.block k (by omega) (.inl (by omega))⟩
theorem But.of_grown {lo hi g:Nat} {w w':World} (h:w.grownBy w' (some g)) (h1:lo<=g) (h2:g<hi):But lo hi w w':=
 ⟨h.os,h.tape,h.output,h.size,fun k hk ho=>h.block k hk (by intro e;simp at e;omega)⟩
theorem Below.andBut {w w1 w2:World} {lo hi:Nat} (h:Below w.heap.size w w1) (k:But lo hi w1 w2) (hlo:w.heap.size<=lo):Below w.heap.size w w2:=
 h.trans (k.below hlo h.size)
def Own (k:IntKind) (E:TypeId) (w:World) (lo hi:Nat) (v:Value) (zs:List Int):Prop:=
 aT k E w lo v zs/\∀g,v.ownBlock=some g->g<hi
theorem aT.own {k:IntKind} {E:TypeId} {w:World} {lo:Nat} {v:Value} {zs:List Int} (h:aT k E w lo v zs):Own k E w lo w.heap.size v zs:=
 ⟨h,fun g hg=>(World.ownsRow.lt h g hg).2⟩
theorem Own.reads {k:IntKind} {E:TypeId} {w:World} {lo hi n cap:Nat} {a:Option Addr} {zs:List Int} (h:Own k E w lo hi (.slice a n cap) zs):aQ k w a zs:=h.1.reads
theorem Own.below {k:IntKind} {E:TypeId} {w w':World} {lo hi:Nat} {v:Value} {zs:List Int} (h:Own k E w lo hi v zs) (hb:Below w.heap.size w w'):Own k E w' lo hi v zs:=
 ⟨h.1.below hb (Nat.le_refl _),h.2⟩
theorem Own.same {k:IntKind} {E:TypeId} {w w':World} {lo hi:Nat} {v:Value} {zs:List Int} (h:Own k E w lo hi v zs) (hs:aG w w'):Own k E w' lo hi v zs:=h.below (hs.below _)
theorem Own.but {k:IntKind} {E:TypeId} {w w':World} {lo hi l h':Nat} {v:Value} {zs:List Int} (h:Own k E w lo hi v zs) (hb:But l h' w w') (hd:hi<=l∨h'<=lo):Own k E w' lo hi v zs:=by
 refine ⟨⟨h.1.1,?_⟩,h.2⟩
 rcases h.1.2 with h2|⟨g,cap,cur,hv,hbg,hg,r⟩
 . exact .inl h2
 have hlt:g<w.heap.size:=(Array.getElem?_eq_some_iff.1 hg).1;have hhi:g<hi:=h.2 g (by rw [hv];rfl);exact .inr ⟨g,cap,cur,hv,hbg,by rw [hb.block g hlt (by omega)];exact hg,r⟩
theorem Own.shape {k:IntKind} {E:TypeId} {w:World} {lo hi:Nat} {v:Value} {zs:List Int} (h:Own k E w lo hi v zs):∃a cap,v=.slice a zs.length cap:=by
 obtain ⟨a,cap,hv,_⟩:=h.1.shape;exact ⟨a,cap,hv⟩
theorem Own.length {k:IntKind} {E:TypeId} {w:World} {lo hi n cap:Nat} {a:Option Addr} {zs:List Int} (h:Own k E w lo hi (.slice a n cap) zs):zs.length=n:=by
 obtain ⟨a',cap',hv⟩:=h.shape;simp only [Value.slice.injEq] at hv
 exact hv.2.1.symm
theorem Own.cases {k:IntKind} {E:TypeId} {w:World} {lo hi n cap:Nat} {a:Option Addr} {zs:List Int} (h:Own k E w lo hi (.slice a n cap) zs):
 n=0∨∃g,a=some ⟨g,0,none⟩/\lo<=g/\g<hi:=by
 rcases h.1.2 with ⟨hv,hn⟩|⟨g,cap',cur,hv,hbg,hg,r⟩
 . simp only [Value.slice.injEq] at hv
   exact .inl hv.2.1
 simp only [Value.slice.injEq] at hv
 exact .inr ⟨g,hv.1,hbg,h.2 g (by rw [hv.1];rfl)⟩
theorem Own.store {k:IntKind} {E:TypeId} {w:World} {lo hi n cap g:Nat} {zs:List Int} (h:Own k E w lo hi (.slice (some ⟨g,0,none⟩) n cap) zs) (j:Nat) (hj:j<n) (x:Int):
 w.cell? ⟨g,j,none⟩=some (.int k (zs.getD j 0))/\w.frozen? ⟨g,j,none⟩=false /\
 Own k E (w.setCell ⟨g,j,none⟩ (.int k x)) lo hi (.slice (some ⟨g,0,none⟩) n cap) (zs.set j x)/\But lo hi w (w.setCell ⟨g,j,none⟩ (.int k x)):=by
 have hl:=h.length;have h1:w.ownsRow lo E 1 (.slice (some ⟨g,0,none⟩) n cap) n (zs.map (Value.int k)):=by have:=h.1;unfold aT at this;rw [hl] at this;exact this
 have hg1:lo<=g:=(World.ownsRow.lt h1 g rfl).1;have hg2:g<hi:=h.2 g rfl;refine ⟨?_,h1.frozenAt j,⟨?_,h.2⟩,But.of_grown (h1.stored j _).2 hg1 hg2⟩
 . rw [h1.cellAt j (by omega)]
   simp [List.getElem?_eq_getElem (show j<zs.length by omega)]
 have:=(h1.stored j (.int k x)).1;unfold aT;rw [List.length_set,hl,List.map_set];exact this
def fE (f:Int->Int) (k0:Int) (n:Nat):List Int:=(List.range n).map fun (i:Nat)=>f (k0+(i:Int))
theorem aQ.cells {k:IntKind} {w:World} {ad:Addr} {ys:List Int} (h:aQ k w (some ad) ys):∀j u,(ys.map (Value.int k))[j]?=some u->w.cell? (ad.add j)=some u:=by
 intro j u hu;rw [List.getElem?_map] at hu;rcases h with h|⟨b,off,ha,hlt,hc⟩
 . subst h
   simp at hu
 simp at ha
 subst ha;have hj:j<ys.length:=by
  by_cases hj:j<ys.length
  . exact hj
  rw [List.getElem?_eq_none (by omega)] at hu;simp at hu
 rw [List.getElem?_eq_getElem hj] at hu;simp at hu
 have ea:(⟨b,off,none⟩:Addr).add j=⟨b,off+j,none⟩:=by unfold Addr.add;split<;>simp_all
 rw [ea,hc j hj,←hu];simp [List.getElem?_eq_getElem hj]
theorem gg {k:IntKind} (ys:List Int):∀u∈ys.map (Value.int k),u.oneCell'=true:=by
 intro u hu;obtain ⟨n,_,rfl⟩:=List.mem_map.1 hu;rfl
theorem aQ.new (k:IntKind) (w:World) (E:TypeId) (ys:List Int) (cs:Array Value) (h:cs=(ys.map (Value.int k)).toArray):aQ k (w.alloc (.cells cs E)) (some ⟨w.heap.size,0,none⟩) ys:=by
 refine .inr ⟨w.heap.size,0,rfl,by simp,fun i hi=>?_⟩
 rw [cell_of_row (w.alloc (.cells cs E)) w.heap.size (0+i) cs E (0,0) (heap_alloc_new w _),h];simp [List.getElem?_eq_getElem hi]
theorem aT.alloc {k:IntKind} {E:TypeId} {w:World} {lo:Nat} {v:Value} {zs:List Int} (h:aT k E w lo v zs) (o:Obj):aT k E (w.alloc o) lo v zs:=World.ownsRow.alloc h o
theorem aT.drewN {k:IntKind} {E:TypeId} {w:World} {lo:Nat} {v:Value} {zs:List Int} (h:aT k E w lo v zs) (n:Nat):aT k E (w.drewN n) lo v zs:=h
theorem aT.drew {k:IntKind} {E:TypeId} {w:World} {lo:Nat} {v:Value} {zs:List Int} (h:aT k E w lo v zs):aT k E w.drew lo v zs:=h
theorem aT.grown {k:IntKind} {E:TypeId} {w w':World} {lo:Nat} {v:Value} {zs:List Int} (h:aT k E w lo v zs) (hg:w.grownBy w' none):aT k E w' lo v zs:=World.ownsRow.kept h hg (by cases hv:v.ownBlock<;>simp)
theorem cc {P:Program} {w:World} {ops:Array Oper} {rest:List Oper} {o:Oper} {a:Act} {Q:Exit->Act->World->Prop} (k:IntKind) (hgd:o.guard=none) (s x:Operand) (t:TypeId)
 (ho:o.op=.call { callee:=.builtin .append,args:=#[s,x],argTypes:=#[t,t] })
 (lo:Nat) (E:TypeId) (i:TypeInfo) (z:Value) (bytes:Nat) (ht:P.underlying t=some (.slice E)) (hi:P.info? E=some i) (hz:i.zero=some z)
 (hsize:i.size=1) (hby:i.bytes=bytes) (hzs:z.cells.size=1)
 (v:Value) (zs:List Int) (hs:a.eval s=v) (hown:aT k E w lo v zs)
 (ad:Addr) (m c:Nat) (ys:List Int) (hx:a.eval x=.slice (some ad) m c) (hl:ys.length=m) (hr:aQ k w (some ad) ys)
 (h63:zs.length+m<=maxLen) (hbytes:(zs.length+m)*bytes<=140737488355328) (hbase:lo<=w.heap.size)
 (h:∀v' w',aT k E w' lo v' (zs++ys)->Below lo w w'->wpList P ops Q rest (a.put o.dst v') w'):wpList P ops Q (o :: rest) a w:=by
 refine wpList_append_own w hgd s x t ho lo E i z 1 bytes ht hi hz hsize hby hzs (by decide) v zs.length (zs.map (Value.int k)) hs hown ad m c (ys.map (Value.int k)) hx (by simp [hl]) hr.cells (gg ys) h63 hbytes hbase ?_
 intro v' w' h1 h2 _;refine h v' w' ?_ ((Below.refl _ _).grown h2 hbase (fun g hg=>(World.ownsRow.lt hown g hg).1))
 unfold aT;rw [List.map_append,List.length_append,hl];exact h1
theorem aT.lit (k:IntKind) (E:TypeId) (w:World) (ys:List Int) (n:Nat) (cs:Array Value) (h:cs=(ys.map (Value.int k)).toArray) (hn:ys.length=n) (hm:n<=maxLen):aT k E (w.alloc (.cells cs E)) w.heap.size (.slice (some ⟨w.heap.size,0,none⟩) n n) ys:=by
 have:=World.ownsRow_lit (base:=w.heap.size) (e:=E) (size:=1) w cs n (Nat.le_refl _) hm (by rw [h];simp [hn]);unfold aT;rw [hn];rw [h] at this;rw [h];simpa using this
theorem aT.take {k:IntKind} {E:TypeId} {w:World} {lo n:Nat} {v:Value} {zs ps:List Int} (h:aT k E w lo v zs) (hp:zs=ps) (hn:ps.length=n):
 ∃a cap,v=.slice a n cap/\Own k E w lo w.heap.size (.slice a n cap) ps:=by
 subst hp;obtain ⟨a,cap,hv,_⟩:=h.shape;rw [hn] at hv;exact ⟨a,cap,hv,by rw [←hv];exact h.own⟩
theorem Own.bound {k:IntKind} {E:TypeId} {w:World} {lo hi n cap:Nat} {a:Option Addr} {zs:List Int} (h:Own k E w lo hi (.slice a n cap) zs):∀x,a=some x->x.block<hi:=by
 intro x hx;exact h.2 _ (by rw [hx];rfl)
theorem But.setCell {lo hi g j:Nat} {w:World} (h1:lo<=g) (h2:g<hi) (u:Value):But lo hi w (w.setCell ⟨g,j,none⟩ u):=
 ⟨rfl,rfl,rfl,by simp [World.setCell],fun k _ ho=>Below.heap_setCell _ _ _ _ (by simp;omega)⟩
theorem But.drewN {lo hi:Nat} {a w:World} (h:But lo hi a w) (n:Nat):But lo hi a (w.drewN n):=⟨h.os,h.tape,h.output,h.size,h.block⟩
theorem But.of_below {lo hi:Nat} {w w':World} (h:Below w.heap.size w w'):But lo hi w w':=⟨h.os,h.tape,h.output,h.size,fun k hk _=>h.block k hk⟩
theorem But.alloc {lo hi:Nat} {a w:World} (h:But lo hi a w) (o:Obj):But lo hi a (w.alloc o):=h.trans (But.of_below ((Below.refl _ _).alloc (Nat.le_refl _) o))
theorem ab {p:Prop} (h:p):Hid p:=h
theorem af (w:World) (o:Obj):Below w.heap.size w (w.alloc o):=(Below.refl _ _).alloc (Nat.le_refl _) _
theorem Tryz.info3:(Tryz.prog.info? 3).map (fun i=>(i.zero,i.size,i.bytes))=some (some (.int .i64 0),1,8):=by kernel_rfl
theorem dh (w:World) (a:Option Addr) (len cap:Nat) (zs:List Int) (hz:zs.length=len) (hr:aQ .i64 w a zs) (hlen:len<=2097152):
 Calls Tryz.prog 52 #[.slice a len cap] w fun e w'=>
  e=.returned (.slice (some ⟨w.heap.size,0,none⟩) len len)/\aT .i64 3 w' w.heap.size (.slice (some ⟨w.heap.size,0,none⟩) len len) zs/\Below w.heap.size w w':=by
 obtain ⟨i0,hi,hz0,hz1,hz2⟩:=info_parts Tryz.info3;have hb3:i0.bytes*len<=281474976710656:=by rw [hz2];omega
 have hm3:len<=maxLen:=by unfold maxLen;omega
 go_enter Tryz.func52,Tryz.ntmps52
 go_wp2_with (at_make;refine wpList_make_full _ rfl _ _ 42 rfl w.heap.size 3 i0 (.int .i64 0) 1 Tryz.underlying42 hi hz0 hz1 _ _ _ _ len rfl rfl rfl rfl hb3 hm3 (Nat.le_refl _) ?_;intro w1 hown hgrow)
 go_loopw [4] (fun i wr=>∃j:Nat,j<=len/\i=.int .i64 j/\wr.ownsRow w.heap.size 3 1 (.slice (some ⟨w.heap.size,0,none⟩) len len) len ((zs.take j++List.replicate (len-j) (0:Int)).map (Value.int .i64))/\Below w.heap.size w wr)
  (fun i _=>len-(intOf i).toNat)
 case atStart=>exact ⟨0,Nat.zero_le _,rfl,by rw [dQ] at hown;simpa using hown,(Below.refl _ _).grown hgrow (Nat.le_refl _) (by simp)⟩
 obtain ⟨j,hj,rfl,ho,hb⟩:=hrel;by_cases hlt:j<len
 . rcases hr.cases with h0|⟨b,off,rfl,hbl,hc⟩
   . omega
   have hcx:wr.cell? ⟨b,off+j,none⟩=some (.int .i64 (zs.getD j 0)):=(hb.cell (p:=⟨b,off+j,none⟩) hbl).trans (hc j (by omega));generalize hx:zs.getD j 0=x at hcx;obtain ⟨hcy,hfy,R⟩:=gf hx hz hlt ho;clear hc hown hgrow ho hx;go_wp2
   go_roundw
   case rel=>exact ⟨j+1,by omega,by go_num,R,hb.setCell (Nat.le_refl _) _⟩
   case measure=>simp [intOf];omega
 go_wp2
 go_ret
 have e:j=len:=by omega
 subst e;refine ⟨rfl,?_,hb⟩
 unfold aT;rw [hz];simpa [List.take_of_length_le (Nat.le_of_eq hz)] using ho
theorem cG (w:World) (a b:Option Addr) (la lb ca cb:Nat) (xs ys:List Int) (hla:xs.length=la) (hlb:ys.length=lb) (hx:aQ .i64 w a xs) (hy:aQ .i64 w b ys) (hlen:la<=2097152):
 Calls Tryz.prog 62 #[.slice a la ca,.slice b lb cb] w fun e w'=>e=.returned (.bool (decide (xs=ys)))/\aG w w':=by
 by_cases hl:la=lb
 . subst hl
   go_enter Tryz.func62,Tryz.ntmps62
   go_wp2
   go_loopw [5] (fun i wr=>∃j:Nat,j<=la/\i=.int .i64 j/\xs.take j=ys.take j/\aG w wr) (fun i _=>la-(intOf i).toNat)
   case atStart=>exact ⟨0,Nat.zero_le _,rfl,rfl,aG.refl _⟩
   obtain ⟨j,hj,rfl,ht,hs⟩:=hrel;by_cases hlt:j<la
   . rcases hx.cases with h0|⟨bx,ox,rfl,hbx,hcx⟩
     . omega
     rcases hy.cases with h0|⟨bz,oy,rfl,hby,hcy⟩
     . omega
     have hx1:=(hs.cell ⟨bx,ox+j,none⟩).trans (hcx j (by omega));have hy1:=(hs.cell ⟨bz,oy+j,none⟩).trans (hcy j (by omega));have hd:=fD (xs:=xs) (ys:=ys) (j:=j) (by omega) (by omega);generalize xs.getD j 0=x at hx1 hd;generalize ys.getD j 0=y at hy1 hd;have HT:Hid (xs.take j=ys.take j):=ht;clear hcx hcy ht;by_cases hxy:x=y
     . subst hxy
       have HD:=hd.1 rfl HT.out;clear hd;go_wp2
       go_quiet (fail)
       go_wp2
       go_roundw
       case rel=>exact ⟨j+1,by omega,by go_num,HD,hs.drewN _⟩
       case measure=>simp [intOf];omega
     have hne:(x==y)=false:=by simpa using hxy
     have HN:=hd.2 hxy;clear hd;go_wp2
     go_quiet (fail)
     go_wp2
     go_ret
     exact ⟨ac (by simpa using HN),hs.drewN _⟩
   go_wp2
   go_ret
   have e:j=la:=by omega
   subst e;rw [List.take_of_length_le (by omega),List.take_of_length_le (by omega)] at ht;exact ⟨ac (by simp [ht]),hs⟩
 have hne:((la:Int)==(lb:Int))=false:=by simp;omega
 go_enter Tryz.func62,Tryz.ntmps62
 go_wp2
 go_ret
 exact ⟨ac (by simp;intro h;apply hl;rw [←hla,←hlb,h]),aG.refl _⟩
def inB (x least most:Int):Bool:=decide (least<=x)&&decide (x<=most)
theorem al (x least most:Int) (w:World):Calls Tryz.prog 28 #[.int .i64 x,.int .i64 least,.int .i64 most] w fun e w'=>e=.returned (.bool (inB x least most))/\w'=w:=by
 unfold inB;by_cases h0:least<=x
 . by_cases h1:x<=most
   . go_enter Tryz.func28,Tryz.ntmps28
     go_wp2
     go_ret
     exact ⟨ac (by simp [h0,h1]),rfl⟩
   go_enter Tryz.func28,Tryz.ntmps28
   go_wp2
   go_ret
   exact ⟨ac (by symm;simp;omega),rfl⟩
 go_enter Tryz.func28,Tryz.ntmps28
 go_wp2
 go_ret
 exact ⟨ac (by symm;simp;omega),rfl⟩
theorem bq (x least most:Int) (w:World):Calls Tryz.prog 72 #[.int .i64 x,.int .i64 least,.int .i64 most] w fun e w'=>e=.returned (.bool (inB x least most))/\w'=w:=by
 unfold inB;by_cases h0:least<=x
 . by_cases h1:x<=most
   . go_enter Tryz.func72,Tryz.ntmps72
     go_wp2
     go_ret
     exact ⟨ac (by simp [h0,h1]),rfl⟩
   go_enter Tryz.func72,Tryz.ntmps72
   go_wp2
   go_ret
   exact ⟨ac (by symm;simp;omega),rfl⟩
 go_enter Tryz.func72,Tryz.ntmps72
 go_wp2
 go_ret
 exact ⟨ac (by symm;simp;omega),rfl⟩
def bo (n s:Int):Bool:=inB n 3 5&&inB s 1 8
def bg (n s:Int):Int:=if bo n s=true then s*(n-1) else 0
def aH (n s t:Int):Bool:=bo n s&&inB t 0 (s-1)
def eh (n s t:Int):Int:=if aH n s t=true then n-1-t % n else -1
def cH (n s t i:Int):Bool:=aH n s t&&inB i 0 (n-2)
def cx (n s t i:Int):Int:=if cH n s t i=true then (n-1-t % n+1+i) % n else -1
def aU (n s b:Int):Bool:=inB b 0 (bg n s-1)
def ao (n s b:Int):Int:=if aU n s b=true then b / (n-1) else -1
def aR (n s b:Int):Int:=if aU n s b=true then b % (n-1) else -1
def cI (n s t i:Int):Int:=if cH n s t i=true then t*(n-1)+i else -1
theorem aP {x l m:Int}:inB x l m=true ↔ l<=x/\x<=m:=by unfold inB;simp
theorem ap {n s:Int}:bo n s=true ↔ 3<=n/\n<=5/\1<=s/\s<=8:=by unfold bo;rw [Bool.and_eq_true,aP,aP,and_assoc]
theorem dt {n s:Int} (h:bo n s=true):2<=s*(n-1)/\s*(n-1)<=32:=by
 obtain ⟨h1,h2,h3,h4⟩:=ap.1 h;have:n=3∨n=4∨n=5:=by omega
 rcases this with rfl|rfl|rfl<;>omega
theorem cJ {n s:Int} (h:bo n s=true):bg n s=s*(n-1):=by unfold bg;rw [if_pos h]
theorem cp {n s:Int} (h:bo n s=false):bg n s=0:=by unfold bg;rw [if_neg (by simp [h])]
theorem ck (n s:Int):0<=bg n s/\bg n s<=32:=by
 by_cases h:bo n s=true
 . rw [cJ h]
   have:=dt h;omega
 rw [cp (by simpa using h)];omega
def bp (w:World) (B:Nat) (T:TypeId) (n s:Int):Prop:=w.heap[B]?=some (.cells #[.int .i64 n,.int .i64 s] T (0,0))
theorem bp.cells {w:World} {B:Nat} {T:TypeId} {n s:Int} (h:bp w B T n s):w.cell? ⟨B,0,none⟩=some (.int .i64 n)/\w.cell? ⟨B,1,none⟩=some (.int .i64 s):=
 ⟨cell_of_row w B 0 _ T (0,0) h,cell_of_row w B 1 _ T (0,0) h⟩
theorem bp.frozen {w:World} {B:Nat} {T:TypeId} {n s:Int} (h:bp w B T n s) (j:Nat):w.frozen? ⟨B,j,none⟩=false:=frozen_of_row w B j _ T h
theorem bp.new (w:World) (T:TypeId) (n s:Int):bp (w.alloc (.cells #[.int .i64 n,.int .i64 s] T)) w.heap.size T n s:=heap_alloc_new w _
theorem bp.lt {w:World} {B:Nat} {T:TypeId} {n s:Int} (h:bp w B T n s):B<w.heap.size:=(Array.getElem?_eq_some_iff.1 h).1
theorem bp.below {w w':World} {B N:Nat} {T:TypeId} {n s:Int} (h:bp w B T n s) (hb:Below N w w') (hN:B<N):bp w' B T n s:=(hb.block B hN).trans h
theorem bp.drew {w:World} {B:Nat} {T:TypeId} {n s:Int} (h:bp w B T n s):bp w.drew B T n s:=h
theorem bp.set2 {w:World} {B:Nat} {T:TypeId} {n s:Int} (h:bp w B T n s) (a c:Int):bp ((w.setCell ⟨B,0,none⟩ (.int .i64 a)).setCell ⟨B,1,none⟩ (.int .i64 c)) B T a c:=by
 have h1:(w.setCell ⟨B,0,none⟩ (.int .i64 a)).heap[B]?=some (.cells #[.int .i64 a,.int .i64 s] T (0,0)):=heap_setCell_same w B 0 _ _ _ h;exact heap_setCell_same _ B 1 _ _ _ h1
theorem cY (w:World) (n s:Int):Calls Tryz.prog 56 #[.agg #[.int .i64 n,.int .i64 s]] w fun e w'=>e=.returned (.bool (bo n s))/\Below w.heap.size w w':=by
 have hA:=af w (.cells #[.int .i64 n,.int .i64 s] 31);obtain ⟨k0,k1⟩:=(bp.new w 31 n s).cells;by_cases h1:3<=n
 . by_cases h2:n<=5
   . by_cases h3:1<=s
     . by_cases h4:s<=8
       . go_enter Tryz.func56,Tryz.ntmps56
         go_wp2
         go_ret
         exact ⟨ac (by symm;rw [ap];omega),hA⟩
       go_enter Tryz.func56,Tryz.ntmps56
       go_wp2
       go_ret
       exact ⟨ac (by symm;rw [←Bool.not_eq_true,ap];omega),hA⟩
     go_enter Tryz.func56,Tryz.ntmps56
     go_wp2
     go_ret
     exact ⟨ac (by symm;rw [←Bool.not_eq_true,ap];omega),hA⟩
   go_enter Tryz.func56,Tryz.ntmps56
   go_wp2
   go_ret
   exact ⟨ac (by symm;rw [←Bool.not_eq_true,ap];omega),hA⟩
 go_enter Tryz.func56,Tryz.ntmps56
 go_wp2
 go_ret
 exact ⟨ac (by symm;rw [←Bool.not_eq_true,ap];omega),hA⟩
theorem cZ (w:World) (n s:Int):Calls Tryz.prog 45 #[.agg #[.int .i64 n,.int .i64 s]] w fun e w'=>e=.returned (.bool (bo n s))/\Below w.heap.size w w':=by
 have hA:=af w (.cells #[.int .i64 n,.int .i64 s] 31);obtain ⟨k0,k1⟩:=(bp.new w 31 n s).cells;by_cases h1:inB n 3 5=true
 . go_enter Tryz.func45,Tryz.ntmps45
   go_wp2_with fail
   refine (al _ _ _ _).mono ?_
   rintro e w1 ⟨rfl,rfl⟩;go_wp2_with fail
   refine (al _ _ _ _).mono ?_
   rintro e w1 ⟨rfl,rfl⟩;go_wp2
   go_ret
   exact ⟨ac (by unfold bo;rw [h1];rfl),hA⟩
 have h1:inB n 3 5=false:=by simpa using h1
 go_enter Tryz.func45,Tryz.ntmps45
 go_wp2_with fail
 refine (al _ _ _ _).mono ?_
 rintro e w1 ⟨rfl,rfl⟩;go_wp2
 go_ret
 exact ⟨ac (by unfold bo;rw [h1];rfl),hA⟩
theorem ia (w:World) (n s:Int):Calls Tryz.prog 15 #[.agg #[.int .i64 n,.int .i64 s]] w fun e w'=>e=.returned (.agg #[.int .i64 n,.int .i64 s])/\Below w.heap.size w w':=by
 go_enter Tryz.func15,Tryz.ntmps15
 go_wp2
 refine bodyPost_ret (v:=.agg #[.int .i64 n,.int .i64 s]) (by simp [results,Tryz.results15,go_sem]) rfl ?_
 refine ⟨rfl,?_⟩
 exact ((af w _).alloc (by simp) _).alloc (by simp;omega) _
def isW (n:Int):Bool:=decide (0<=n)&&decide (n<=65535)
def dm (l:List Int):Bool:=l.all isW
def cf (l:List Int):Bool:=decide (l.length<=12)&&dm l
theorem fh {zs:List Int} {j:Nat} {x:Int} (h:j<zs.length) (hx:zs.getD j 0=x):
 (isW x=true->dm (zs.take j)=true->dm (zs.take (j+1))=true)/\(isW x=false->dm zs=false):=by
 have e:zs[j]=x:=by rw [←hx];simp [List.getElem?_eq_getElem h]
 refine ⟨fun h1 h2=>?_,fun h1=>?_⟩
 . unfold dm at *
   rw [List.take_succ_eq_append_getElem h,List.all_append,h2,e];simp [h1]
 unfold dm;rw [List.all_eq_false];exact ⟨x,by rw [←e];exact List.getElem_mem h,by simp [h1]⟩
theorem ey (n:Int) (w:World):Calls Tryz.prog 99 #[.int .i64 n] w fun e w'=>e=.returned (.bool (isW n))/\w'=w:=by
 unfold isW;by_cases h0:0<=n
 . by_cases h1:n<=65535
   . go_enter Tryz.func99,Tryz.ntmps99
     go_wp2
     go_ret
     exact ⟨ac (by simp [h0,h1]),rfl⟩
   go_enter Tryz.func99,Tryz.ntmps99
   go_wp2
   go_ret
   exact ⟨ac (by symm;simp;omega),rfl⟩
 go_enter Tryz.func99,Tryz.ntmps99
 go_wp2
 go_ret
 exact ⟨ac (by symm;simp;omega),rfl⟩
theorem ez (n:Int) (w:World):Calls Tryz.prog 86 #[.int .i64 n] w fun e w'=>e=.returned (.bool (isW n))/\w'=w:=by
 go_enter Tryz.func86,Tryz.ntmps86
 go_wp2_with (go_at_call 28;refine (al _ _ _ _).mono ?_;rintro e w' ⟨rfl,rfl⟩)
 go_ret
 exact ⟨rfl,rfl⟩
theorem cr (w:World) (a:Option Addr) (len cap:Nat) (zs:List Int) (hz:zs.length=len) (hr:aQ .i64 w a zs) (hlen:len<=2097152):
 Calls Tryz.prog 66 #[.slice a len cap] w fun e w'=>e=.returned (.bool (dm zs))/\w'=w:=by
 go_enter Tryz.func66,Tryz.ntmps66
 go_wp2
 go_loop [3] (fun i=>∃j:Nat,j<=len/\i=.int .i64 j/\dm (zs.take j)=true) (fun i=>len-(intOf i).toNat)
 case atStart=>exact ⟨0,Nat.zero_le _,rfl,rfl⟩
 obtain ⟨j,hj,rfl,ht⟩:=hrel;by_cases hlt:j<len
 . rcases hr.cases with h0|⟨b,off,rfl,hbl,hc⟩
   . omega
   have hc1:=hc j (by omega);have hd:=fh (zs:=zs) (j:=j) (by omega) rfl;generalize zs.getD j 0=x at hc1 hd;have HT:Hid (dm (zs.take j)=true):=ht;clear hc ht;by_cases hx:isW x=true
   . have HD:=hd.1 hx HT.out
     clear hd;go_wp2_with (go_at_call 86;refine (ez _ _).mono ?_;rintro e w' ⟨rfl,rfl⟩)
     go_round
     case rel=>exact ⟨j+1,by omega,by go_num,HD⟩
     case measure=>simp [intOf];omega
   have hx:isW x=false:=by simpa using hx
   have HD:=hd.2 hx;clear hd;go_wp2_with (go_at_call 86;refine (ez _ _).mono ?_;rintro e w' ⟨rfl,rfl⟩)
   go_ret
   exact ⟨ac (by rw [HD]),rfl⟩
 go_wp2
 go_ret
 have e:j=len:=by omega
 subst e;rw [List.take_of_length_le (by omega)] at ht;exact ⟨ac ht.symm,rfl⟩
theorem cl (w:World) (a:Option Addr) (len cap:Nat) (zs:List Int) (hz:zs.length=len) (hr:aQ .i64 w a zs) (hlen:len<=2097152):
 Calls Tryz.prog 85 #[.slice a len cap] w fun e w'=>e=.returned (.bool (cf zs))/\aG w w':=by
 by_cases h:len<=12
 . go_enter Tryz.func85,Tryz.ntmps85
   go_wp2_with (go_at_call 66;refine (cr _ _ _ _ zs hz hr hlen).mono ?_;rintro e w' ⟨rfl,rfl⟩)
   go_ret
   exact ⟨ac (by simp [cf,hz,h]),aG.refl _⟩
 go_enter Tryz.func85,Tryz.ntmps85
 go_wp2
 go_ret
 exact ⟨ac (by simp [cf,hz,h]),aG.refl _⟩
theorem bk (w:World) (a:Option Addr) (len cap:Nat) (zs:List Int) (hz:zs.length=len) (hr:aQ .i64 w a zs) (hlen:len<=2097152):
 Calls Tryz.prog 92 #[.slice a len cap] w fun e w'=>e=.returned (.bool (cf zs))/\aG w w':=by
 by_cases h:len<=12
 . go_enter Tryz.func92,Tryz.ntmps92
   go_wp2
   go_loop [10] (fun i=>∃j:Nat,j<=len/\i=.int .i64 j/\dm (zs.take j)=true) (fun i=>len-(intOf i).toNat)
   case atStart=>exact ⟨0,Nat.zero_le _,rfl,rfl⟩
   obtain ⟨j,hj,rfl,ht⟩:=hrel;by_cases hlt:j<len
   . rcases hr.cases with h0|⟨b,off,rfl,hbl,hc⟩
     . omega
     have hc1:=hc j (by omega);have hd:=fh (zs:=zs) (j:=j) (by omega) rfl;generalize zs.getD j 0=x at hc1 hd;have HT:Hid (dm (zs.take j)=true):=ht;clear hc ht;by_cases hx:isW x=true
     . have HD:=hd.1 hx HT.out
       clear hd;go_wp2_with (go_at_call 99;refine (ey _ _).mono ?_;rintro e w' ⟨rfl,rfl⟩)
       go_round
       case rel=>exact ⟨j+1,by omega,by go_num,HD⟩
       case measure=>simp [intOf];omega
     have hx:isW x=false:=by simpa using hx
     have HD:=hd.2 hx;clear hd;go_wp2_with (go_at_call 99;refine (ey _ _).mono ?_;rintro e w' ⟨rfl,rfl⟩)
     go_ret
     exact ⟨ac (by simp [cf,HD]),aG.refl _⟩
   go_wp2
   go_ret
   have e:j=len:=by omega
   subst e;rw [List.take_of_length_le (by omega)] at ht;exact ⟨ac (by simp [cf,hz,h,ht]),aG.refl _⟩
 go_enter Tryz.func92,Tryz.ntmps92
 go_wp2
 go_ret
 exact ⟨ac (by simp [cf,hz,h]),aG.refl _⟩
end Go.Proofs.YtfimpohbpccjaaaGreat
