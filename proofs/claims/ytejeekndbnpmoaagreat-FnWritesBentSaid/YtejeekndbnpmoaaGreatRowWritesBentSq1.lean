/-
 Plain lemmas on a struct that lies in a block of its own: its cells, and how they outlast later steps. No condition; nothing of the program is named here.
-/
import Derived.WalkKit
import Derived.WalkSpells
import Derived.WalkLawsBesides
import Derived.Handy
import Derived.BigQuiet
import Derived.Deep.QuietTactic
import Derived.Deep.RegionHeld3
import Derived.Deep.AppendLies
import Derived.Test.YtejeekndbnpmoaaGreatRows
import Derived.Maps.AppendAt

set_option maxRecDepth 100000
set_option maxHeartbeats 8000000
set_option linter.unusedSimpArgs false

namespace Go.Proofs.YtejeekndbnpmoaaGreat
open Go.RowKit

def aK (k:IntKind) (w:World) (a:Option Addr) (zs:List Int):Prop:=
 zs=[]∨∃b off,a=some ⟨b,off,none⟩/\b<w.heap.size/\∀i,i<zs.length->w.cell? ⟨b,off+i,none⟩=some (.int k (zs.getD i 0))
theorem aK.below {k:IntKind} {w w':World} {a:Option Addr} {zs:List Int} (h:aK k w a zs) (hb:Below w.heap.size w w'):aK k w' a zs:=by
 rcases h with h|⟨b,off,ha,hlt,hc⟩
 . exact .inl h
 refine .inr ⟨b,off,ha,Nat.lt_of_lt_of_le hlt hb.size,fun i hi=>?_⟩
 rw [hb.cell (p:=⟨b,off+i,none⟩) hlt];exact hc i hi
theorem aK.draw {k:IntKind} {w:World} {a:Option Addr} {zs:List Int} (h:aK k w a zs):aK k w.drew a zs:=h
theorem aK.old {k:IntKind} {w w':World} {a:Option Addr} {zs:List Int} {B:Nat} (h:aK k w a zs) (hB:∀x,a=some x->x.block<B) (hb:Below B w w'):aK k w' a zs:=by
 rcases h with h|⟨b,off,ha,hlt,hc⟩
 . exact .inl h
 refine .inr ⟨b,off,ha,Nat.lt_of_lt_of_le hlt hb.size,fun i hi=>?_⟩
 have hx:b<B:=hB _ ha;rw [hb.cell (p:=⟨b,off+i,none⟩) hx];exact hc i hi
structure aN (w w':World):Prop where
 os:w'.os=w.os
 tape:w'.tape=w.tape
 output:w'.output=w.output
 heap:w'.heap=w.heap
theorem aN.refl (w:World):aN w w:=⟨rfl,rfl,rfl,rfl⟩
theorem aN.trans {a b c:World} (h:aN a b) (k:aN b c):aN a c:=⟨k.os.trans h.os,k.tape.trans h.tape,k.output.trans h.output,k.heap.trans h.heap⟩
theorem aN.drew {a w:World} (h:aN a w):aN a w.drew:=⟨h.os,h.tape,h.output,h.heap⟩
theorem aN.drewN {a w:World} (h:aN a w) (n:Nat):aN a (w.drewN n):=⟨h.os,h.tape,h.output,h.heap⟩
theorem aN.below {w w':World} (h:aN w w') (B:Nat):Below B w w':=⟨h.os,h.tape,h.output,by rw [h.heap];exact Nat.le_refl _,fun _ _=>by rw [h.heap]⟩
theorem aN.cell {w w':World} (h:aN w w') (p:Addr):w'.cell? p=w.cell? p:=(h.below (p.block+1)).cell (Nat.lt_succ_self _)
theorem aN.size {w w':World} (h:aN w w'):w'.heap.size=w.heap.size:=by rw [h.heap]
theorem aK.same {k:IntKind} {w w':World} {a:Option Addr} {zs:List Int} (h:aK k w a zs) (hs:aN w w'):aK k w' a zs:=h.below (hs.below _)
theorem aK.cases {k:IntKind} {w:World} {a:Option Addr} {zs:List Int} (h:aK k w a zs):zs.length=0∨∃b off,a=some ⟨b,off,none⟩/\b<w.heap.size/\∀i,i<zs.length->w.cell? ⟨b,off+i,none⟩=some (.int k (zs.getD i 0)):=by
 rcases h with h|h
 . exact .inl (by rw [h];rfl)
 exact .inr h
def bj (k:IntKind) (E:TypeId) (w:World) (base:Nat) (v:Value) (zs:List Int):Prop:=
 w.ownsRow base E 1 v zs.length (zs.map (Value.int k))
theorem bj.shape {k:IntKind} {E:TypeId} {w:World} {base:Nat} {v:Value} {zs:List Int} (h:bj k E w base v zs):
 ∃a cap,v=.slice a zs.length cap/\aK k w a zs/\(∀x,a=some x->base<=x.block/\x.block<w.heap.size):=by
 rcases h.2 with ⟨hv,hn⟩|⟨g,cap,cur,hv,hb,hg,hnc,hcm,hcs,ht⟩
 . refine ⟨none,0,by rw [hv,hn],.inl (List.eq_nil_of_length_eq_zero hn),by simp⟩
 have hlt:g<w.heap.size:=(Array.getElem?_eq_some_iff.1 hg).1;refine ⟨some ⟨g,0,none⟩,cap,hv,.inr ⟨g,0,rfl,hlt,fun i hi=>?_⟩,?_⟩
 . have h':w.ownsRow base E 1 (.slice (some ⟨g,0,none⟩) zs.length cap) zs.length (zs.map (Value.int k)):=by rw [←hv];exact h
   have:=h'.cellAt i (by omega);rw [Nat.zero_add,this];simp [List.getElem?_eq_getElem hi]
 intro x hx;simp at hx
 subst hx;exact ⟨hb,hlt⟩
theorem bj.below {k:IntKind} {E:TypeId} {w w':World} {base B:Nat} {v:Value} {zs:List Int} (h:bj k E w base v zs) (hb:Below B w w') (hB:w.heap.size<=B):bj k E w' base v zs:=by
 refine ⟨h.1,?_⟩
 rcases h.2 with h2|⟨g,cap,cur,hv,hbg,hg,r⟩
 . exact .inl h2
 have hlt:g<w.heap.size:=(Array.getElem?_eq_some_iff.1 hg).1;exact .inr ⟨g,cap,cur,hv,hbg,by rw [hb.block g (by omega)];exact hg,r⟩
theorem bj.lower {k:IntKind} {E:TypeId} {w:World} {base base':Nat} {v:Value} {zs:List Int} (h:bj k E w base v zs) (hb:base'<=base):bj k E w base' v zs:=by
 refine ⟨h.1,?_⟩
 rcases h.2 with h2|⟨g,cap,cur,hv,hbg,r⟩
 . exact .inl h2
 exact .inr ⟨g,cap,cur,hv,by omega,r⟩
theorem ag {a b:Bool} (h:a=b):Ending.returned (.bool a)=.returned (.bool b):=by rw [h]
theorem aG {k:IntKind} {a b:Int} (h:a=b):Ending.returned (.int k a)=.returned (.int k b):=by rw [h]
theorem ke (k:IntKind) (n:Nat):(madeCells (Value.int k 0).cells (n*1)).toList=(List.replicate n (0:Int)).map (Value.int k):=by
 apply List.ext_getElem?
 intro i;by_cases h:i<n
 . simp [madeCells,h,Value.cells,Nat.mod_one]
 simp [madeCells,h]
theorem pB {xs ys:List Int} {j:Nat} (h1:j<xs.length) (h2:j<ys.length):
 (xs.getD j 0=ys.getD j 0->xs.take j=ys.take j->xs.take (j+1)=ys.take (j+1))/\(xs.getD j 0≠ys.getD j 0->xs≠ys):=by
 refine ⟨fun h ht=>?_,fun h he=>h (by rw [he])⟩
 rw [List.take_succ_eq_append_getElem h1,List.take_succ_eq_append_getElem h2,ht];simp only [List.getD_eq_getElem?_getD,List.getElem?_eq_getElem h1,List.getElem?_eq_getElem h2,Option.getD_some] at h
 rw [h]
theorem Below.andThen {w w1 w2:World} (h:Below w.heap.size w w1) (k:Below w1.heap.size w1 w2):Below w.heap.size w w2:=h.trans (k.mono h.size)
theorem Below.andSame {w w1 w2:World} (h:Below w.heap.size w w1) (k:aN w1 w2):Below w.heap.size w w2:=h.trans (k.below _)
theorem bj.reads {k:IntKind} {E:TypeId} {w:World} {base n cap:Nat} {a:Option Addr} {zs:List Int} (h:bj k E w base (.slice a n cap) zs):aK k w a zs:=by
 obtain ⟨a',cap',hv,hr,_⟩:=h.shape;simp only [Value.slice.injEq] at hv
 rw [hv.1];exact hr
def pC (k:IntKind) (w:World) (a:Option Addr) (len cap:Nat) (zs:List Int):Prop:=
 (a=none/\len=0/\cap=0/\zs=[]) ∨
 ∃x,a=some x/\len<=cap/\cap<=maxLen/\zs.length=cap/\(∀i,i<zs.length->w.cell? (x.add i)=some (.int k (zs.getD i 0)))/\∀n∈zs,(Lit.int k n).wf=true
theorem pC.reads {k:IntKind} {w:World} {a:Option Addr} {len cap:Nat} {zs:List Int} (h:pC k w a len cap zs):
 aK k w a (zs.take len)/\(zs.take len).length=len/\(∀n∈zs.take len,(Lit.int k n).wf=true)/\len<=maxLen:=by
 rcases h with ⟨rfl,rfl,rfl,rfl⟩|⟨x,rfl,hl,hm,hz,hc,hw⟩
 . exact ⟨.inl rfl,rfl,by simp,Nat.zero_le _⟩
 have hlen:(zs.take len).length=len:=by simp;omega
 refine ⟨?_,hlen,fun n hn=>hw n (List.mem_of_mem_take hn),Nat.le_trans hl hm⟩
 by_cases h0:len=0
 . subst h0
   exact .inl (by simp)
 obtain ⟨b,off,spot⟩:=x;have hc0:=hc 0 (by omega);have hspot:spot=none:=by simpa [Addr.add] using World.cell?_spot hc0
 subst hspot;refine .inr ⟨b,off,rfl,World.block_lt_of_cell? w _ hc0,fun i hi=>?_⟩
 have hi':i<len:=by omega
 have:=hc i (by omega);have ea:(⟨b,off,none⟩:Addr).add i=⟨b,off+i,none⟩:=by unfold Addr.add;split<;>simp_all
 rw [ea] at this;rw [List.getD_eq_getElem?_getD,List.getElem?_take,if_pos hi',←List.getD_eq_getElem?_getD];exact this
structure But (lo hi:Nat) (w w':World):Prop where
 os:w'.os=w.os
 tape:w'.tape=w.tape
 output:w'.output=w.output
 size:w.heap.size<=w'.heap.size
 block:∀k,k<w.heap.size->(k<lo∨hi<=k)->w'.heap[k]?=w.heap[k]?
theorem But.refl (lo hi:Nat) (w:World):But lo hi w w:=⟨rfl,rfl,rfl,Nat.le_refl _,fun _ _ _=>rfl⟩
theorem But.trans {lo hi:Nat} {a b c:World} (h:But lo hi a b) (k:But lo hi b c):But lo hi a c:=
 ⟨k.os.trans h.os,k.tape.trans h.tape,k.output.trans h.output,Nat.le_trans h.size k.size,fun i hi' ho=>(k.block i (Nat.lt_of_lt_of_le hi' h.size) ho).trans (h.block i hi' ho)⟩
theorem But.below {lo hi B:Nat} {w w':World} (h:But lo hi w w') (hB:B<=lo) (hw:B<=w.heap.size):Below B w w':=
 ⟨h.os,h.tape,h.output,h.size,fun k hk=>h.block k (by omega) (.inl (by omega))⟩
theorem But.of_grown {lo hi g:Nat} {w w':World} (h:w.grownBy w' (some g)) (h1:lo<=g) (h2:g<hi):But lo hi w w':=
 ⟨h.os,h.tape,h.output,h.size,fun k hk ho=>h.block k hk (by intro e;simp at e;omega)⟩
theorem Below.andBut {w w1 w2:World} {lo hi:Nat} (h:Below w.heap.size w w1) (k:But lo hi w1 w2) (hlo:w.heap.size<=lo):Below w.heap.size w w2:=
 h.trans (k.below hlo h.size)
def Own (k:IntKind) (E:TypeId) (w:World) (lo hi:Nat) (v:Value) (zs:List Int):Prop:=
 bj k E w lo v zs/\∀g,v.ownBlock=some g->g<hi
theorem bj.own {k:IntKind} {E:TypeId} {w:World} {lo:Nat} {v:Value} {zs:List Int} (h:bj k E w lo v zs):Own k E w lo w.heap.size v zs:=
 ⟨h,fun g hg=>(World.ownsRow.lt h g hg).2⟩
theorem Own.reads {k:IntKind} {E:TypeId} {w:World} {lo hi n cap:Nat} {a:Option Addr} {zs:List Int} (h:Own k E w lo hi (.slice a n cap) zs):aK k w a zs:=h.1.reads
theorem Own.below {k:IntKind} {E:TypeId} {w w':World} {lo hi:Nat} {v:Value} {zs:List Int} (h:Own k E w lo hi v zs) (hb:Below w.heap.size w w'):Own k E w' lo hi v zs:=
 ⟨h.1.below hb (Nat.le_refl _),h.2⟩
theorem Own.same {k:IntKind} {E:TypeId} {w w':World} {lo hi:Nat} {v:Value} {zs:List Int} (h:Own k E w lo hi v zs) (hs:aN w w'):Own k E w' lo hi v zs:=h.below (hs.below _)
theorem Own.but {k:IntKind} {E:TypeId} {w w':World} {lo hi l h':Nat} {v:Value} {zs:List Int} (h:Own k E w lo hi v zs) (hb:But l h' w w') (hd:hi<=l∨h'<=lo):Own k E w' lo hi v zs:=by
 refine ⟨⟨h.1.1,?_⟩,h.2⟩
 rcases h.1.2 with h2|⟨g,cap,cur,hv,hbg,hg,r⟩
 . exact .inl h2
 have hlt:g<w.heap.size:=(Array.getElem?_eq_some_iff.1 hg).1;have hhi:g<hi:=h.2 g (by rw [hv];rfl);exact .inr ⟨g,cap,cur,hv,hbg,by rw [hb.block g hlt (by omega)];exact hg,r⟩
theorem Own.shape {k:IntKind} {E:TypeId} {w:World} {lo hi:Nat} {v:Value} {zs:List Int} (h:Own k E w lo hi v zs):∃a cap,v=.slice a zs.length cap:=by
 obtain ⟨a,cap,hv,_⟩:=h.1.shape;exact ⟨a,cap,hv⟩
theorem Own.length {k:IntKind} {E:TypeId} {w:World} {lo hi n cap:Nat} {a:Option Addr} {zs:List Int} (h:Own k E w lo hi (.slice a n cap) zs):zs.length=n:=by
 obtain ⟨a',cap',hv⟩:=h.shape;simp only [Value.slice.injEq] at hv
 exact hv.2.1.symm
theorem Own.cases {k:IntKind} {E:TypeId} {w:World} {lo hi n cap:Nat} {a:Option Addr} {zs:List Int} (h:Own k E w lo hi (.slice a n cap) zs):
 n=0∨∃g,a=some ⟨g,0,none⟩/\lo<=g/\g<hi:=by
 rcases h.1.2 with ⟨hv,hn⟩|⟨g,cap',cur,hv,hbg,hg,r⟩
 . simp only [Value.slice.injEq] at hv
   exact .inl hv.2.1
 simp only [Value.slice.injEq] at hv
 exact .inr ⟨g,hv.1,hbg,h.2 g (by rw [hv.1];rfl)⟩
theorem Own.store {k:IntKind} {E:TypeId} {w:World} {lo hi n cap g:Nat} {zs:List Int} (h:Own k E w lo hi (.slice (some ⟨g,0,none⟩) n cap) zs) (j:Nat) (hj:j<n) (x:Int):
 w.cell? ⟨g,j,none⟩=some (.int k (zs.getD j 0))/\w.frozen? ⟨g,j,none⟩=false /\
 Own k E (w.setCell ⟨g,j,none⟩ (.int k x)) lo hi (.slice (some ⟨g,0,none⟩) n cap) (zs.set j x)/\But lo hi w (w.setCell ⟨g,j,none⟩ (.int k x)):=by
 have hl:=h.length;have h1:w.ownsRow lo E 1 (.slice (some ⟨g,0,none⟩) n cap) n (zs.map (Value.int k)):=by have:=h.1;unfold bj at this;rw [hl] at this;exact this
 have hg1:lo<=g:=(World.ownsRow.lt h1 g rfl).1;have hg2:g<hi:=h.2 g rfl;refine ⟨?_,h1.frozenAt j,⟨?_,h.2⟩,But.of_grown (h1.stored j _).2 hg1 hg2⟩
 . rw [h1.cellAt j (by omega)]
   simp [List.getElem?_eq_getElem (show j<zs.length by omega)]
 have:=(h1.stored j (.int k x)).1;unfold bj;rw [List.length_set,hl,List.map_set];exact this
theorem aK.cells {k:IntKind} {w:World} {ad:Addr} {ys:List Int} (h:aK k w (some ad) ys):∀j u,(ys.map (Value.int k))[j]?=some u->w.cell? (ad.add j)=some u:=by
 intro j u hu;rw [List.getElem?_map] at hu;rcases h with h|⟨b,off,ha,hlt,hc⟩
 . subst h
   simp at hu
 simp at ha
 subst ha;have hj:j<ys.length:=by
  by_cases hj:j<ys.length
  . exact hj
  rw [List.getElem?_eq_none (by omega)] at hu;simp at hu
 rw [List.getElem?_eq_getElem hj] at hu;simp at hu
 have ea:(⟨b,off,none⟩:Addr).add j=⟨b,off+j,none⟩:=by unfold Addr.add;split<;>simp_all
 rw [ea,hc j hj,←hu];simp [List.getElem?_eq_getElem hj]
theorem jw {k:IntKind} (ys:List Int):∀u∈ys.map (Value.int k),u.oneCell'=true:=by
 intro u hu;obtain ⟨n,_,rfl⟩:=List.mem_map.1 hu;rfl
theorem aK.new (k:IntKind) (w:World) (E:TypeId) (ys:List Int) (cs:Array Value) (h:cs=(ys.map (Value.int k)).toArray):aK k (w.alloc (.cells cs E)) (some ⟨w.heap.size,0,none⟩) ys:=by
 refine .inr ⟨w.heap.size,0,rfl,by simp,fun i hi=>?_⟩
 rw [cell_of_row (w.alloc (.cells cs E)) w.heap.size (0+i) cs E (0,0) (heap_alloc_new w _),h];simp [List.getElem?_eq_getElem hi]
theorem bj.alloc {k:IntKind} {E:TypeId} {w:World} {lo:Nat} {v:Value} {zs:List Int} (h:bj k E w lo v zs) (o:Obj):bj k E (w.alloc o) lo v zs:=World.ownsRow.alloc h o
theorem bj.drewN {k:IntKind} {E:TypeId} {w:World} {lo:Nat} {v:Value} {zs:List Int} (h:bj k E w lo v zs) (n:Nat):bj k E (w.drewN n) lo v zs:=h
theorem bj.drew {k:IntKind} {E:TypeId} {w:World} {lo:Nat} {v:Value} {zs:List Int} (h:bj k E w lo v zs):bj k E w.drew lo v zs:=h
theorem bj.grown {k:IntKind} {E:TypeId} {w w':World} {lo:Nat} {v:Value} {zs:List Int} (h:bj k E w lo v zs) (hg:w.grownBy w' none):bj k E w' lo v zs:=World.ownsRow.kept h hg (by cases hv:v.ownBlock<;>simp)
theorem cZ {P:Program} {w:World} {ops:Array Oper} {rest:List Oper} {o:Oper} {a:Act} {Q:Exit->Act->World->Prop} (k:IntKind) (hgd:o.guard=none) (s x:Operand) (t:TypeId)
 (ho:o.op=.call { callee:=.builtin .append,args:=#[s,x],argTypes:=#[t,t] })
 (lo:Nat) (E:TypeId) (i:TypeInfo) (z:Value) (bytes:Nat) (ht:P.underlying t=some (.slice E)) (hi:P.info? E=some i) (hz:i.zero=some z)
 (hsize:i.size=1) (hby:i.bytes=bytes) (hzs:z.cells.size=1)
 (v:Value) (zs:List Int) (hs:a.eval s=v) (hown:bj k E w lo v zs)
 (ad:Addr) (m c:Nat) (ys:List Int) (hx:a.eval x=.slice (some ad) m c) (hl:ys.length=m) (hr:aK k w (some ad) ys)
 (h63:zs.length+m<=maxLen) (hbytes:(zs.length+m)*bytes<=140737488355328) (hbase:lo<=w.heap.size)
 (h:∀v' w',bj k E w' lo v' (zs++ys)->Below lo w w'->wpList P ops Q rest (a.put o.dst v') w'):wpList P ops Q (o :: rest) a w:=by
 refine wpList_append_own w hgd s x t ho lo E i z 1 bytes ht hi hz hsize hby hzs (by decide) v zs.length (zs.map (Value.int k)) hs hown ad m c (ys.map (Value.int k)) hx (by simp [hl]) hr.cells (jw ys) h63 hbytes hbase ?_
 intro v' w' h1 h2 _;refine h v' w' ?_ ((Below.refl _ _).grown h2 hbase (fun g hg=>(World.ownsRow.lt hown g hg).1))
 unfold bj;rw [List.map_append,List.length_append,hl];exact h1
theorem bj.lit (k:IntKind) (E:TypeId) (w:World) (ys:List Int) (n:Nat) (cs:Array Value) (h:cs=(ys.map (Value.int k)).toArray) (hn:ys.length=n) (hm:n<=maxLen):bj k E (w.alloc (.cells cs E)) w.heap.size (.slice (some ⟨w.heap.size,0,none⟩) n n) ys:=by
 have:=World.ownsRow_lit (base:=w.heap.size) (e:=E) (size:=1) w cs n (Nat.le_refl _) hm (by rw [h];simp [hn]);unfold bj;rw [hn];rw [h] at this;rw [h];simpa using this
theorem bj.take {k:IntKind} {E:TypeId} {w:World} {lo n:Nat} {v:Value} {zs ps:List Int} (h:bj k E w lo v zs) (hp:zs=ps) (hn:ps.length=n):
 ∃a cap,v=.slice a n cap/\Own k E w lo w.heap.size (.slice a n cap) ps:=by
 subst hp;obtain ⟨a,cap,hv,_⟩:=h.shape;rw [hn] at hv;exact ⟨a,cap,hv,by rw [←hv];exact h.own⟩
theorem But.setCell {lo hi g j:Nat} {w:World} (h1:lo<=g) (h2:g<hi) (u:Value):But lo hi w (w.setCell ⟨g,j,none⟩ u):=
 ⟨rfl,rfl,rfl,by simp [World.setCell],fun k _ ho=>Below.heap_setCell _ _ _ _ (by simp;omega)⟩
theorem But.drewN {lo hi:Nat} {a w:World} (h:But lo hi a w) (n:Nat):But lo hi a (w.drewN n):=⟨h.os,h.tape,h.output,h.size,h.block⟩
theorem But.of_below {lo hi:Nat} {w w':World} (h:Below w.heap.size w w'):But lo hi w w':=⟨h.os,h.tape,h.output,h.size,fun k hk _=>h.block k hk⟩
theorem But.alloc {lo hi:Nat} {a w:World} (h:But lo hi a w) (o:Obj):But lo hi a (w.alloc o):=h.trans (But.of_below ((Below.refl _ _).alloc (Nat.le_refl _) o))
theorem But.thenBelow {lo hi:Nat} {w0 wr w1:World} (h:But lo hi w0 wr) (k:Below w0.heap.size wr w1):But lo hi w0 w1:=
 ⟨k.os.trans h.os,k.tape.trans h.tape,k.output.trans h.output,Nat.le_trans h.size k.size,fun i hi' ho=>(k.block i hi').trans (h.block i hi' ho)⟩
theorem aa {p:Prop} (h:p):Hid p:=h
theorem ae (w:World) (o:Obj):Below w.heap.size w (w.alloc o):=(Below.refl _ _).alloc (Nat.le_refl _) _
structure Ty where
 n:Nat
 D:Type
 rd:World->List Value->D->List Nat->Prop
 ow:World->List Value->D->List Nat->Prop
 owRd:∀{w vs d fp},ow w vs d fp->rd w vs d fp
 rdLen:∀{w vs d fp},rd w vs d fp->vs.length=n
 rdLt:∀{w vs d fp},rd w vs d fp->∀b∈fp,b<w.heap.size
 rdKept:∀{w w' vs d fp},rd w vs d fp->(∀b∈fp,w'.heap[b]?=w.heap[b]?)->w.heap.size<=w'.heap.size->rd w' vs d fp
 owKept:∀{w w' vs d fp},ow w vs d fp->(∀b∈fp,w'.heap[b]?=w.heap[b]?)->w.heap.size<=w'.heap.size->ow w' vs d fp
theorem cW {w w':World} {b:Nat} (h:w'.heap[b]?=w.heap[b]?) (off:Nat):w'.cell? ⟨b,off,none⟩=w.cell? ⟨b,off,none⟩:=World.cell?_of_block (w:=w) h
abbrev ey:Ty where
 n:=1
 D:=Int
 rd:=fun _ vs d fp=>vs=[.int .i64 d]/\fp=[]
 ow:=fun _ vs d fp=>vs=[.int .i64 d]/\fp=[]
 owRd:=fun h=>h
 rdLen:=fun h=>by rw [h.1];rfl
 rdLt:=fun h=>by rw [h.2];simp
 rdKept:=fun h _ _=>h
 owKept:=fun h _ _=>h
abbrev fy:Ty where
 n:=1
 D:=Bool
 rd:=fun _ vs d fp=>vs=[.bool d]/\fp=[]
 ow:=fun _ vs d fp=>vs=[.bool d]/\fp=[]
 owRd:=fun h=>h
 rdLen:=fun h=>by rw [h.1];rfl
 rdLt:=fun h=>by rw [h.2];simp
 rdKept:=fun h _ _=>h
 owKept:=fun h _ _=>h
abbrev dU (t u:Ty):Ty where
 n:=t.n+u.n
 D:=t.D×u.D
 rd:=fun w vs d fp=>∃f1 f2,fp=f1++f2/\t.rd w (vs.take t.n) d.1 f1/\u.rd w (vs.drop t.n) d.2 f2/\vs.length=t.n+u.n
 ow:=fun w vs d fp=>∃f1 f2,fp=f1++f2/\t.ow w (vs.take t.n) d.1 f1/\u.ow w (vs.drop t.n) d.2 f2/\vs.length=t.n+u.n
 owRd:=fun ⟨f1,f2,h,h1,h2,h3⟩=>⟨f1,f2,h,t.owRd h1,u.owRd h2,h3⟩
 rdLen:=fun ⟨_,_,_,_,_,h3⟩=>h3
 rdLt:=fun ⟨f1,f2,h,h1,h2,_⟩ b hb=>by
  rw [h] at hb;rcases List.mem_append.1 hb with hb|hb
  . exact t.rdLt h1 b hb
  exact u.rdLt h2 b hb
 rdKept:=fun ⟨f1,f2,h,h1,h2,h3⟩ hk hs=>⟨f1,f2,h,t.rdKept h1 (fun b hb=>hk b (by rw [h];exact List.mem_append_left _ hb)) hs,u.rdKept h2 (fun b hb=>hk b (by rw [h];exact List.mem_append_right _ hb)) hs,h3⟩
 owKept:=fun ⟨f1,f2,h,h1,h2,h3⟩ hk hs=>⟨f1,f2,h,t.owKept h1 (fun b hb=>hk b (by rw [h];exact List.mem_append_left _ hb)) hs,u.owKept h2 (fun b hb=>hk b (by rw [h];exact List.mem_append_right _ hb)) hs,h3⟩
def rowRd (t:Ty) (w:World) (b off:Nat) (d:List t.D) (fps:List (List Nat)):Prop:=
 fps.length=d.length/\∀i x,d[i]?=some x->∃f cs,fps[i]?=some f/\t.rd w cs x f/\∀j,j<t.n->w.cell? ⟨b,off+(i*t.n+j),none⟩=cs[j]?
def rowOw (t:Ty) (w:World) (cur:List Value) (d:List t.D) (fps:List (List Nat)):Prop:=
 fps.length=d.length/\∀i x,d[i]?=some x->∃f,fps[i]?=some f/\t.ow w ((cur.drop (i*t.n)).take t.n) x f
abbrev bQ (t:Ty) (E:TypeId):Ty where
 n:=1
 D:=List t.D
 rd:=fun w vs d fp=>∃a cap,vs=[.slice a d.length cap]/\d.length<=cap/\cap<=9223372036854775807 /\
  ((d.length=0/\fp=[]/\(a=none->cap=0))∨∃b off fps,a=some ⟨b,off,none⟩/\b<w.heap.size/\fp=b :: fps.flatten/\rowRd t w b off d fps)
 ow:=fun w vs d fp=>(vs=[.slice none 0 0]/\d=[]/\fp=[]) ∨
  ∃b cap cur fps,vs=[.slice (some ⟨b,0,none⟩) d.length cap]/\d.length<=cap/\cap<=9223372036854775807/\w.heap[b]?=some (.cells cur E (0,0))/\cur.size=cap*t.n/\fp=b :: fps.flatten/\rowOw t w cur.toList d fps
 owRd:=fun {w vs d fp} h=>by
  rcases h with ⟨h1,h2,h3⟩|⟨b,cap,cur,fps,h1,h2,h3,h4,h5,h6,h7,h8⟩
  . refine ⟨none,0,?_,?_,?_,.inl ⟨?_,h3,fun _=>rfl⟩⟩
    . rw [h1,h2];rfl
    . rw [h2];exact Nat.le_refl _
    . omega
    rw [h2];rfl
  refine ⟨_,cap,h1,h2,h3,.inr ⟨b,0,fps,rfl,(Array.getElem?_eq_some_iff.1 h4).1,h6,h7,fun i x hx=>?_⟩⟩
  obtain ⟨f,hf,ho⟩:=h8 i x hx;refine ⟨f,_,hf,t.owRd ho,fun j hj=>?_⟩
  rw [cell_of_row w b _ cur E (0,0) h4,List.getElem?_take,if_pos hj,List.getElem?_drop];simp
 rdLen:=fun ⟨_,_,h,_⟩=>by rw [h];rfl
 rdLt:=fun {w vs d fp} ⟨a,cap,h1,h2,h3,h4⟩ b hb=>by
  rcases h4 with ⟨_,h5,_⟩|⟨b',off,fps,_,h5,h6,h7,h8⟩
  . rw [h5] at hb;simp at hb
  rw [h6] at hb;rcases List.mem_cons.1 hb with rfl|hb
  . exact h5
  obtain ⟨f,hf,hbf⟩:=List.mem_flatten.1 hb;obtain ⟨i,hi⟩:=List.mem_iff_getElem?.1 hf;have hil:i<d.length:=by rw [←h7];exact (List.getElem?_eq_some_iff.1 hi).1
  obtain ⟨f',cs,hf',hrd,_⟩:=h8 i _ (List.getElem?_eq_getElem hil);rw [hi] at hf';simp at hf'
  subst hf';exact t.rdLt hrd b hbf
 rdKept:=fun {w w' vs d fp} ⟨a,cap,h1,h2,h3,h4⟩ hk hs=>by
  refine ⟨a,cap,h1,h2,h3,?_⟩
  rcases h4 with h4|⟨b,off,fps,h5,h6,h7,h8,h9⟩
  . exact .inl h4
  have hb:w'.heap[b]?=w.heap[b]?:=hk b (by rw [h7];exact List.mem_cons_self);refine .inr ⟨b,off,fps,h5,Nat.lt_of_lt_of_le h6 hs,h7,h8,fun i x hx=>?_⟩
  obtain ⟨f,cs,hf,hrd,hc⟩:=h9 i x hx;refine ⟨f,cs,hf,t.rdKept hrd (fun b' hb'=>hk b' ?_) hs,fun j hj=>?_⟩
  . rw [h7]
    exact List.mem_cons_of_mem _ (List.mem_flatten.2 ⟨f,List.mem_of_getElem? hf,hb'⟩)
  rw [cW hb,hc j hj]
 owKept:=fun {w w' vs d fp} h hk hs=>by
  rcases h with h|⟨b,cap,cur,fps,h1,h2,h3,h4,h5,h6,h7,h8⟩
  . exact .inl h
  refine .inr ⟨b,cap,cur,fps,h1,h2,h3,?_,h5,h6,h7,fun i x hx=>?_⟩
  . rw [hk b (by rw [h6];exact List.mem_cons_self)];exact h4
  obtain ⟨f,hf,ho⟩:=h8 i x hx;refine ⟨f,hf,t.owKept ho (fun b' hb'=>hk b' ?_) hs⟩
  rw [h6];exact List.mem_cons_of_mem _ (List.mem_flatten.2 ⟨f,List.mem_of_getElem? hf,hb'⟩)
def Ty.Rd (t:Ty) (w:World) (vs:List Value) (d:t.D):Prop:=∃fp,t.rd w vs d fp
def Ty.Own (t:Ty) (w:World) (lo hi:Nat) (vs:List Value) (d:t.D):Prop:=∃fp,t.ow w vs d fp/\fp.Nodup/\∀b∈fp,lo<=b/\b<hi
theorem Ty.Rd.below {t:Ty} {w w':World} {vs:List Value} {d:t.D} (h:t.Rd w vs d) (hb:Below w.heap.size w w'):t.Rd w' vs d:=by
 obtain ⟨fp,h⟩:=h;exact ⟨fp,t.rdKept h (fun b hb'=>hb.block b (t.rdLt h b hb')) hb.size⟩
theorem Ty.Rd.same {t:Ty} {w w':World} {vs:List Value} {d:t.D} (h:t.Rd w vs d) (hs:aN w w'):t.Rd w' vs d:=h.below (hs.below _)
theorem Ty.Rd.drew {t:Ty} {w:World} {vs:List Value} {d:t.D} (h:t.Rd w vs d):t.Rd w.drew vs d:=h.same ((aN.refl w).drew)
theorem Ty.Own.rd {t:Ty} {w:World} {lo hi:Nat} {vs:List Value} {d:t.D} (h:t.Own w lo hi vs d):t.Rd w vs d:=by
 obtain ⟨fp,h,_⟩:=h;exact ⟨fp,t.owRd h⟩
theorem Ty.Own.below {t:Ty} {w w':World} {lo hi:Nat} {vs:List Value} {d:t.D} (h:t.Own w lo hi vs d) (hb:Below w.heap.size w w'):t.Own w' lo hi vs d:=by
 obtain ⟨fp,h,hn,hr⟩:=h;exact ⟨fp,t.owKept h (fun b hb'=>hb.block b (t.rdLt (t.owRd h) b hb')) hb.size,hn,hr⟩
theorem Ty.Own.same {t:Ty} {w w':World} {lo hi:Nat} {vs:List Value} {d:t.D} (h:t.Own w lo hi vs d) (hs:aN w w'):t.Own w' lo hi vs d:=h.below (hs.below _)
theorem Ty.Own.but {t:Ty} {w w':World} {lo hi l h':Nat} {vs:List Value} {d:t.D} (h:t.Own w lo hi vs d) (hb:But l h' w w') (hd:hi<=l∨h'<=lo):t.Own w' lo hi vs d:=by
 obtain ⟨fp,h,hn,hr⟩:=h;exact ⟨fp,t.owKept h (fun b hb'=>hb.block b (t.rdLt (t.owRd h) b hb') (by have:=hr b hb';omega)) hb.size,hn,hr⟩
theorem Ty.Own.widen {t:Ty} {w:World} {lo hi lo' hi':Nat} {vs:List Value} {d:t.D} (h:t.Own w lo hi vs d) (h1:lo'<=lo) (h2:hi<=hi'):t.Own w lo' hi' vs d:=by
 obtain ⟨fp,h,hn,hr⟩:=h;exact ⟨fp,h,hn,fun b hb=>by have:=hr b hb;omega⟩
theorem aP {w:World} {a:Option Addr} {n cap:Nat} {E:TypeId} {zs:List Int} (h:(bQ ey E).Rd w [.slice a n cap] zs):aK .i64 w a zs/\zs.length=n/\n<=cap/\cap<=9223372036854775807:=by
 obtain ⟨fp,a',cap',hv,h2,h3,h4⟩:=h;simp only [List.cons.injEq,Value.slice.injEq,and_true] at hv
 obtain ⟨rfl,rfl,rfl⟩:=hv;refine ⟨?_,rfl,h2,h3⟩
 rcases h4 with ⟨h5,_⟩|⟨b,off,fps,rfl,h6,h7,h8,h9⟩
 . exact .inl (List.eq_nil_of_length_eq_zero h5)
 refine .inr ⟨b,off,rfl,h6,fun i hi=>?_⟩
 obtain ⟨f,cs,_,⟨hcs,_⟩,hc⟩:=h9 i _ (List.getElem?_eq_getElem hi);have:=hc 0 (by show 0<1;omega);rw [hcs] at this;have e:off+(i*ey.n+0)=off+i:=by show off+(i*1+0)=off+i;omega
 rw [e] at this;rw [this,List.getD_eq_getElem?_getD,List.getElem?_eq_getElem hi];rfl
theorem qH {w:World} {a:Option Addr} {cap:Nat} {E:TypeId} {zs:List Int} (h:aK .i64 w a zs) (h1:zs.length<=cap) (h2:cap<=9223372036854775807) (hc0:a=none->cap=0):(bQ ey E).Rd w [.slice a zs.length cap] zs:=by
 rcases h with rfl|⟨b,off,rfl,hlt,hc⟩
 . exact ⟨[],a,cap,rfl,h1,h2,.inl ⟨rfl,rfl,hc0⟩⟩
 by_cases h0:zs.length=0
 . exact ⟨[],_,cap,rfl,h1,h2,.inl ⟨h0,rfl,hc0⟩⟩
 refine ⟨b :: (zs.map fun _=>([]:List Nat)).flatten,_,cap,rfl,h1,h2,.inr ⟨b,off,zs.map fun _=>[],rfl,hlt,rfl,by simp,fun i x hx=>?_⟩⟩
 have hi:i<zs.length:=(List.getElem?_eq_some_iff.1 hx).1;refine ⟨[],[.int .i64 x],by rw [List.getElem?_map,hx];rfl,⟨rfl,rfl⟩,fun j hj=>?_⟩
 have hj0:j=0:=by have:j<1:=hj;omega
 subst hj0;have e:off+(i*ey.n+0)=off+i:=by show off+(i*1+0)=off+i;omega
 rw [e,hc i hi,List.getD_eq_getElem?_getD,hx];rfl
theorem az {t:Ty} {E:TypeId} {w:World} {v:Value} {d:List t.D} (h:(bQ t E).Rd w [v] d):∃a cap,v=.slice a d.length cap:=by
 obtain ⟨fp,a,cap,hv,_⟩:=h;exact ⟨a,cap,by simpa using hv⟩
theorem af {t:Ty} {E:TypeId} {w:World} {a:Option Addr} {n cap:Nat} {d:List t.D} (h:(bQ t E).Rd w [.slice a n cap] d):d.length=n/\n<=cap/\cap<=9223372036854775807:=by
 obtain ⟨fp,a',cap',hv,h2,h3,_⟩:=h;simp only [List.cons.injEq,Value.slice.injEq,and_true] at hv
 obtain ⟨rfl,rfl,rfl⟩:=hv;exact ⟨rfl,h2,h3⟩
theorem lC {t:Ty} {E:TypeId} {w:World} {n cap:Nat} {d:List t.D} (h:(bQ t E).Rd w [.slice none n cap] d):n=0/\cap=0/\d=[]:=by
 obtain ⟨fp,a',cap',hv,h2,h3,h4⟩:=h;simp only [List.cons.injEq,Value.slice.injEq,and_true] at hv
 obtain ⟨rfl,rfl,rfl⟩:=hv;rcases h4 with ⟨h5,_,h6⟩|⟨b,off,fps,h5,_⟩
 . exact ⟨h5,h6 rfl,List.eq_nil_of_length_eq_zero h5⟩
 simp at h5
theorem ii {t:Ty} {E:TypeId} {w:World} {a:Option Addr} {n cap:Nat} {d:List t.D} (ht:t.n=1) (h:(bQ t E).Rd w [.slice a n cap] d):
 n=0∨∃b off,a=some ⟨b,off,none⟩/\b<w.heap.size/\∀i x,d[i]?=some x->∃v,w.cell? ⟨b,off+i,none⟩=some v/\t.Rd w [v] x:=by
 obtain ⟨fp,a',cap',hv,h2,h3,h4⟩:=h;simp only [List.cons.injEq,Value.slice.injEq,and_true] at hv
 obtain ⟨rfl,rfl,rfl⟩:=hv;rcases h4 with ⟨h5,_⟩|⟨b,off,fps,h5,h6,_,_,h9⟩
 . exact .inl h5
 refine .inr ⟨b,off,h5,h6,fun i x hx=>?_⟩
 obtain ⟨f,cs,_,hrd,hc⟩:=h9 i x hx;have hl:=t.rdLen hrd;rw [ht] at hl;match cs,hl with
 | [v],_=>
  refine ⟨v,?_,f,hrd⟩
  have:=hc 0 (by omega);rw [ht,Nat.mul_one,Nat.add_zero] at this;exact this
theorem cY {t:Ty} {E:TypeId} {w:World} {a:Option Addr} {n cap:Nat} {d:List t.D} (ht:t.n=2) (h:(bQ t E).Rd w [.slice a n cap] d):
 n=0∨∃b off,a=some ⟨b,off,none⟩/\b<w.heap.size/\∀i x,d[i]?=some x->∃v0 v1,w.cell? ⟨b,off+i*2,none⟩=some v0/\w.cell? ⟨b,off+i*2+1,none⟩=some v1/\t.Rd w [v0,v1] x:=by
 obtain ⟨fp,a',cap',hv,h2,h3,h4⟩:=h;simp only [List.cons.injEq,Value.slice.injEq,and_true] at hv
 obtain ⟨rfl,rfl,rfl⟩:=hv;rcases h4 with ⟨h5,_⟩|⟨b,off,fps,h5,h6,_,_,h9⟩
 . exact .inl h5
 refine .inr ⟨b,off,h5,h6,fun i x hx=>?_⟩
 obtain ⟨f,cs,_,hrd,hc⟩:=h9 i x hx;have hl:=t.rdLen hrd;rw [ht] at hl;match cs,hl with
 | [v0,v1],_=>
  refine ⟨v0,v1,?_,?_,f,hrd⟩
  . have:=hc 0 (by omega)
    rw [ht,Nat.add_zero] at this;exact this
  have:=hc 1 (by omega);rw [ht,←Nat.add_assoc] at this;exact this
theorem lD {t u:Ty} {w:World} {vs us:List Value} {d:t.D×u.D} (ht:vs.length=t.n) (h:(dU t u).Rd w (vs++us) d):t.Rd w vs d.1/\u.Rd w us d.2:=by
 obtain ⟨fp,f1,f2,_,h1,h2,_⟩:=h;rw [List.take_left' ht] at h1;rw [List.drop_left' ht] at h2;exact ⟨⟨f1,h1⟩,⟨f2,h2⟩⟩
def ei (l:List Nat):Nat:=l.foldr (·+·) 0
theorem kg {l:List Nat} {j x:Nat} (h:l[j]?=some x):ei (l.take (j+1))=ei (l.take j)+x:=by
 induction l generalizing j with
 | nil=>simp at h
 | cons y l ih=>
  match j,h with
  | 0,h=>simp at h;subst h;simp [ei]
  | j+1,h=>
   have:=ih (j:=j) (by simpa using h);simp only [List.take_succ_cons,ei,List.foldr_cons] at *
   omega
theorem oN {l:List Nat} (j:Nat):ei (l.take j)<=ei l:=by
 induction l generalizing j with
 | nil=>simp [ei]
 | cons y l ih=>
  match j with
  | 0=>simp [ei]
  | j+1=>
   have:=ih j;simp only [List.take_succ_cons,ei,List.foldr_cons] at *
   omega
theorem gE:∀(l:List (List Nat)) (j:Nat) (f:List Nat),l.flatten.Nodup->f.Nodup->(∀b∈f,b∉l.flatten)->(l.set j f).flatten.Nodup/\∀b∈(l.set j f).flatten,b∈f∨b∈l.flatten:=by
 intro l;induction l with
 | nil=>intro j f _ _ _;simp
 | cons x l ih=>
  intro j f hn hf hd;rw [List.flatten_cons,List.nodup_append] at hn;obtain ⟨h1,h2,h3⟩:=hn;match j with
  | 0=>
   rw [List.set_cons_zero,List.flatten_cons,List.nodup_append];refine ⟨⟨hf,h2,fun a ha b hb hab=>?_⟩,fun b hb=>?_⟩
   . subst hab
     exact hd a ha (by rw [List.flatten_cons];exact List.mem_append_right _ hb)
   rcases List.mem_append.1 hb with hb|hb
   . exact .inl hb
   exact .inr (by rw [List.flatten_cons];exact List.mem_append_right _ hb)
  | j+1=>
   obtain ⟨i1,i2⟩:=ih j f h2 hf (fun b hb hbl=>hd b hb (by rw [List.flatten_cons];exact List.mem_append_right _ hbl));rw [List.set_cons_succ,List.flatten_cons,List.nodup_append];refine ⟨⟨h1,i1,fun a ha b hb hab=>?_⟩,fun b hb=>?_⟩
   . subst hab
     rcases i2 a hb with hb|hb
     . exact hd a hb (by rw [List.flatten_cons];exact List.mem_append_left _ ha)
     exact h3 a ha a hb rfl
   rcases List.mem_append.1 hb with hb|hb
   . exact .inr (by rw [List.flatten_cons];exact List.mem_append_left _ hb)
   rcases i2 b hb with hb|hb
   . exact .inl hb
   exact .inr (by rw [List.flatten_cons];exact List.mem_append_right _ hb)
theorem ez {l:List (List Nat)} {j:Nat} {f:List Nat} (hn:l.flatten.Nodup) (hj:l[j]?=some f):f.Nodup/\(∀b∈f,b∈l.flatten)/\∀i g,l[i]?=some g->i≠j->∀b∈g,b∉f:=by
 have hmem:f∈l:=List.mem_of_getElem? hj;refine ⟨?_,fun b hb=>List.mem_flatten.2 ⟨f,hmem,hb⟩,?_⟩
 . exact hn.sublist (List.sublist_flatten_of_mem hmem)
 induction l generalizing j with
 | nil=>simp at hj
 | cons x l ih=>
  rw [List.flatten_cons,List.nodup_append] at hn;obtain ⟨_,h2,h3⟩:=hn;intro i g hi hij b hb hbf;match i,j,hi,hj,hij with
  | 0,0,_,_,hij=>exact hij rfl
  | 0,j+1,hi,hj,_=>
   simp at hi
   subst hi;exact h3 b hb b (List.mem_flatten.2 ⟨f,List.mem_of_getElem? (by simpa using hj),hbf⟩) rfl
  | i+1,0,hi,hj,_=>
   simp at hj
   subst hj;exact h3 b hbf b (List.mem_flatten.2 ⟨g,List.mem_of_getElem? (by simpa using hi),hb⟩) rfl
  | i+1,j+1,hi,hj,hij=>
   exact ih (j:=j) h2 (by simpa using hj) (List.mem_of_getElem? (by simpa using hj)) i g (by simpa using hi) (by omega) b hb hbf
theorem Ty.Own.rowShape {t:Ty} {E:TypeId} {w:World} {lo hi n cap:Nat} {a:Option Addr} {d:List t.D} (h:(bQ t E).Own w lo hi [.slice a n cap] d):n=0∨∃g,a=some ⟨g,0,none⟩:=by
 obtain ⟨fp,h,_,_⟩:=h;rcases h with ⟨h1,_⟩|⟨b,cap',cur,fps,h1,_⟩
 . simp at h1
   exact .inl h1.2.1
 simp at h1
 exact .inr ⟨b,h1.1⟩
theorem Tryz.info3:(Tryz.prog.info? 3).map (fun i=>(i.zero,i.size,i.bytes))=some (some (.int .i64 0),1,8):=by kernel_rfl
theorem vf {zs:List Int} (h:∀n∈zs,0<=n/\n<=255) (j:Nat):0<=zs.getD j 0/\zs.getD j 0<=255:=by
 by_cases hj:j<zs.length
 . have:=h zs[j] (List.getElem_mem hj)
   simpa [List.getElem?_eq_getElem hj] using this
 rw [List.getD_eq_getElem?_getD,List.getElem?_eq_none (by omega)];simp
theorem fE (w:World) (a b:Option Addr) (la lb ca cb:Nat) (xs ys:List Int) (hla:xs.length=la) (hlb:ys.length=lb) (hx:aK .i64 w a xs) (hy:aK .i64 w b ys) (hlen:la<=2097152):
 Calls Tryz.prog 47 #[.slice a la ca,.slice b lb cb] w fun e w'=>e=.returned (.bool (decide (xs=ys)))/\aN w w':=by
 by_cases hl:la=lb
 . subst hl
   go_enter Tryz.func47,Tryz.ntmps47
   go_wp2
   go_loopw [5] (fun i wr=>∃j:Nat,j<=la/\i=.int .i64 j/\xs.take j=ys.take j/\aN w wr) (fun i _=>la-(intOf i).toNat)
   case atStart=>exact ⟨0,Nat.zero_le _,rfl,rfl,aN.refl _⟩
   obtain ⟨j,hj,rfl,ht,hs⟩:=hrel;by_cases hlt:j<la
   . rcases hx.cases with h0|⟨bx,ox,rfl,hbx,hcx⟩
     . omega
     rcases hy.cases with h0|⟨bz,oy,rfl,hby,hcy⟩
     . omega
     have hx1:=(hs.cell ⟨bx,ox+j,none⟩).trans (hcx j (by omega));have hy1:=(hs.cell ⟨bz,oy+j,none⟩).trans (hcy j (by omega));have hd:=pB (xs:=xs) (ys:=ys) (j:=j) (by omega) (by omega);generalize xs.getD j 0=x at hx1 hd;generalize ys.getD j 0=y at hy1 hd;have HT:Hid (xs.take j=ys.take j):=ht;clear hcx hcy ht;by_cases hxy:x=y
     . subst hxy
       have HD:=hd.1 rfl HT.out;clear hd;go_wp2
       go_quiet (fail)
       go_wp2
       go_roundw
       case rel=>exact ⟨j+1,by omega,by go_num,HD,hs.drewN _⟩
       case measure=>simp [intOf];omega
     have hne:(x==y)=false:=by simpa using hxy
     have HN:=hd.2 hxy;clear hd;go_wp2
     go_quiet (fail)
     go_wp2
     go_ret
     exact ⟨ag (by simpa using HN),hs.drewN _⟩
   go_wp2
   go_ret
   have e:j=la:=by omega
   subst e;rw [List.take_of_length_le (by omega),List.take_of_length_le (by omega)] at ht;exact ⟨ag (by simp [ht]),hs⟩
 have hne:((la:Int)==(lb:Int))=false:=by simp;omega
 go_enter Tryz.func47,Tryz.ntmps47
 go_wp2
 go_ret
 exact ⟨ag (by simp;intro h;apply hl;rw [←hla,←hlb,h]),aN.refl _⟩
abbrev aA:Ty:=bQ ey 3
abbrev aT:Ty:=bQ aA 31
def cP (d:List (List Int)):Nat:=d.length+ei (d.map List.length)
abbrev tWr:Ty:=dU ey aA
abbrev aU (E:TypeId):Ty:=bQ tWr E
def bh (d:List (Int×List Int)):Nat:=d.length+ei (d.map fun x=>x.2.length)
theorem eI {w:World} {v0 v1:Value} {d:Int×List Int} (h:tWr.Rd w [v0,v1] d):v0=.int .i64 d.1/\aA.Rd w [v1] d.2:=by
 obtain ⟨⟨_,h1,_⟩,h2⟩:=lD (t:=ey) (u:=aA) (vs:=[v0]) (us:=[v1]) rfl h;exact ⟨by simpa using h1,h2⟩
abbrev bR (E:TypeId):Ty:=dU aT (dU (aU E) (dU fy aA))
def aQ (d:List (List Int)×List (Int×List Int)×Bool×List Int):Nat:=cP d.1+bh d.2.1+d.2.2.2.length
theorem oO {w:World} {E:TypeId} {v0 v1 v2 v3:Value} {d:(bR E).D} (h:(bR E).Rd w [v0,v1,v2,v3] d):
 ∃a0 c0 a1 c1 a3 c3,v0=.slice a0 d.1.length c0/\v1=.slice a1 d.2.1.length c1/\v2=.bool d.2.2.1/\v3=.slice a3 d.2.2.2.length c3 /\
  aT.Rd w [.slice a0 d.1.length c0] d.1/\(aU E).Rd w [.slice a1 d.2.1.length c1] d.2.1/\aA.Rd w [.slice a3 d.2.2.2.length c3] d.2.2.2:=by
 obtain ⟨h0,h⟩:=lD (t:=aT) (vs:=[v0]) (us:=[v1,v2,v3]) rfl h;obtain ⟨h1,h⟩:=lD (t:=aU E) (vs:=[v1]) (us:=[v2,v3]) rfl h;obtain ⟨⟨_,h2,_⟩,h3⟩:=lD (t:=fy) (vs:=[v2]) (us:=[v3]) rfl h;obtain ⟨a0,c0,rfl⟩:=az h0;obtain ⟨a1,c1,rfl⟩:=az h1;obtain ⟨a3,c3,rfl⟩:=az h3;exact ⟨a0,c0,a1,c1,a3,c3,rfl,rfl,by simpa using h2,rfl,h0,h1,h3⟩
theorem gJ {w:World} {E:TypeId} {lo hi:Nat} {v0 v1 v3:Value} {f:Bool} {ss:List (List Int)} {cs:List (Int×List Int)} {bs:List Int} (h:(bR E).Own w lo hi [v0,v1,.bool f,v3] (ss,cs,f,bs)):
 aT.Rd w [v0] ss/\(aU E).Rd w [v1] cs/\aA.Rd w [v3] bs:=by
 obtain ⟨a0,c0,a1,c1,a3,c3,rfl,rfl,_,rfl,h0,h1,h3⟩:=oO h.rd;exact ⟨h0,h1,h3⟩
theorem aR {w:World} {lo:Nat} {v:Value} {zs:List Int} (h:bj .i64 3 w lo v zs):aA.Own w lo w.heap.size [v] zs:=by
 have hlt:=h.own;rcases h.2 with ⟨hv,hn⟩|⟨g,cap,cur,hv,hb,hg,hnc,hcm,hcs,ht⟩
 . exact ⟨[],.inl ⟨by rw [hv],List.eq_nil_of_length_eq_zero hn,rfl⟩,by simp,by simp⟩
 have hgl:g<w.heap.size:=(Array.getElem?_eq_some_iff.1 hg).1;refine ⟨[g],.inr ⟨g,cap,cur,zs.map fun _=>[],by rw [hv],hnc,hcm,hg,hcs,by simp,by simp,fun i x hx=>?_⟩,by simp,by simp;omega⟩
 have hi:i<zs.length:=(List.getElem?_eq_some_iff.1 hx).1;refine ⟨[],by rw [List.getElem?_map,hx];rfl,?_,rfl⟩
 have e:cur.toList[i]?=some (.int .i64 x):=by
  have:(cur.toList.take (zs.length*1))[i]?=(zs.map (Value.int .i64))[i]?:=by rw [ht]
  rw [List.getElem?_take,if_pos (by omega),List.getElem?_map,hx] at this;exact this
 have hic:i<cur.toList.length:=(List.getElem?_eq_some_iff.1 e).1;show (cur.toList.drop (i*1)).take 1=_
 rw [Nat.mul_one,List.drop_eq_getElem_cons hic,List.take_succ_cons,List.take_zero];rw [List.getElem?_eq_getElem hic] at e;simp at e
 rw [Array.getElem_toList,e]
theorem Tryz.infoIntS:(Tryz.prog.info? 31).map (fun i=>(i.zero,i.size,i.bytes))=some (some (.slice none 0 0),1,24):=by kernel_rfl
theorem Tryz.infoWr:(Tryz.prog.info? 171).map (fun i=>(i.zero,i.size,i.bytes))=some (some (.agg #[.int .i64 0,.slice none 0 0]),2,32):=by kernel_rfl
theorem fQ {d:List (List Int)} {j:Nat} {x:List Int} (h:d[j]?=some x):x.length<=cP d:=by
 have h1:=kg (l:=d.map List.length) (j:=j) (x:=x.length) (by rw [List.getElem?_map,h];rfl);have h2:=oN (l:=d.map List.length) (j+1);unfold cP;omega
theorem cE {d:List (Int×List Int)} {j:Nat} {x:Int×List Int} (h:d[j]?=some x):x.2.length<=bh d:=by
 have h1:=kg (l:=d.map fun x=>x.2.length) (j:=j) (x:=x.2.length) (by rw [List.getElem?_map,h];rfl);have h2:=oN (l:=d.map fun x=>x.2.length) (j+1);unfold bh;omega
theorem ij {t:Ty} {E:TypeId} (w:World) (lo hi:Nat):(bQ t E).Own w lo hi [.slice none 0 0] []:=⟨[],.inl ⟨rfl,rfl,rfl⟩,by simp,by simp⟩
structure aw (fp:List Nat) (w w':World):Prop where
 os:w'.os=w.os
 tape:w'.tape=w.tape
 output:w'.output=w.output
 size:w.heap.size<=w'.heap.size
 block:∀k,k<w.heap.size->k∉fp->w'.heap[k]?=w.heap[k]?
theorem aw.refl (fp:List Nat) (w:World):aw fp w w:=⟨rfl,rfl,rfl,Nat.le_refl _,fun _ _ _=>rfl⟩
theorem aw.trans {fp:List Nat} {a b c:World} (h:aw fp a b) (k:aw fp b c):aw fp a c:=
 ⟨k.os.trans h.os,k.tape.trans h.tape,k.output.trans h.output,Nat.le_trans h.size k.size,fun i hi ho=>(k.block i (Nat.lt_of_lt_of_le hi h.size) ho).trans (h.block i hi ho)⟩
theorem aw.mono {fp fq:List Nat} {w w':World} (h:aw fp w w') (hs:∀b∈fp,b∈fq):aw fq w w':=
 ⟨h.os,h.tape,h.output,h.size,fun k hk ho=>h.block k hk (fun hm=>ho (hs k hm))⟩
theorem aw.but {fp:List Nat} {w w':World} {lo hi:Nat} (h:aw fp w w') (hs:∀b∈fp,lo<=b/\b<hi):But lo hi w w':=
 ⟨h.os,h.tape,h.output,h.size,fun k hk ho=>h.block k hk (fun hm=>by have:=hs k hm;omega)⟩
theorem aw.setCell {fp:List Nat} {w:World} {g j:Nat} (v:Value) (hg:g∈fp):aw fp w (w.setCell ⟨g,j,none⟩ v):=
 ⟨rfl,rfl,rfl,by simp [World.setCell],fun k _ hk=>Below.heap_setCell _ _ _ _ (by simp;exact fun e=>hk (e▸hg))⟩
theorem aN.turned {w w':World} (h:aN w w') (fp:List Nat):aw fp w w':=⟨h.os,h.tape,h.output,by rw [h.heap];exact Nat.le_refl _,fun _ _ _=>by rw [h.heap]⟩
def Ty.Mine (t:Ty) (w:World) (vs:List Value) (d:t.D) (fp:List Nat):Prop:=t.ow w vs d fp/\fp.Nodup
theorem Ty.Mine.rd {t:Ty} {w:World} {vs:List Value} {d:t.D} {fp:List Nat} (h:t.Mine w vs d fp):t.Rd w vs d:=⟨fp,t.owRd h.1⟩
theorem Ty.Mine.lt {t:Ty} {w:World} {vs:List Value} {d:t.D} {fp:List Nat} (h:t.Mine w vs d fp):∀b∈fp,b<w.heap.size:=t.rdLt (t.owRd h.1)
theorem Ty.Mine.kept {t:Ty} {w w':World} {vs:List Value} {d:t.D} {fp fq:List Nat} (h:t.Mine w vs d fp) (ht:aw fq w w') (hd:∀b∈fp,b∉fq):t.Mine w' vs d fp:=⟨t.owKept h.1 (fun b hb=>ht.block b (h.lt b hb) (hd b hb)) ht.size,h.2⟩
theorem Ty.Own.mine {t:Ty} {w:World} {lo hi:Nat} {vs:List Value} {d:t.D} (h:t.Own w lo hi vs d):∃fp,t.Mine w vs d fp/\∀b∈fp,lo<=b/\b<hi:=by
 obtain ⟨fp,h1,h2,h3⟩:=h;exact ⟨fp,⟨h1,h2⟩,h3⟩
theorem Ty.Mine.own {t:Ty} {w:World} {lo hi:Nat} {vs:List Value} {d:t.D} {fp:List Nat} (h:t.Mine w vs d fp) (hr:∀b∈fp,lo<=b/\b<hi):t.Own w lo hi vs d:=⟨fp,h.1,h.2,hr⟩
theorem et {t u:Ty} {w:World} {vs us:List Value} {x:t.D} {y:u.D} {fp:List Nat} (ht:vs.length=t.n) (h:(dU t u).Mine w (vs++us) (x,y) fp):∃f1 f2,fp=f1++f2/\t.Mine w vs x f1/\u.Mine w us y f2/\∀b∈f1,b∉f2:=by
 obtain ⟨⟨f1,f2,hf,h1,h2,_⟩,hn⟩:=h;rw [List.take_left' ht] at h1;rw [List.drop_left' ht] at h2;rw [hf,List.nodup_append] at hn;exact ⟨f1,f2,hf,⟨h1,hn.1⟩,⟨h2,hn.2.1⟩,fun b hb hb'=>hn.2.2 b hb b hb' rfl⟩
theorem fF {t u:Ty} {w:World} {vs us:List Value} {x:t.D} {y:u.D} {f1 f2:List Nat} (h1:t.Mine w vs x f1) (h2:u.Mine w us y f2) (hd:∀b∈f1,b∉f2):(dU t u).Mine w (vs++us) (x,y) (f1++f2):=by
 have l1:=t.rdLen (t.owRd h1.1);have l2:=u.rdLen (u.owRd h2.1);refine ⟨⟨f1,f2,rfl,by rw [List.take_left' l1];exact h1.1,by rw [List.drop_left' l1];exact h2.1,by rw [List.length_append,l1,l2]⟩,?_⟩
 rw [List.nodup_append];exact ⟨h1.2,h2.2,fun a ha b hb e=>hd a ha (e▸hb)⟩
theorem pD {t:Ty} {E:TypeId} {w:World} {g n cap j:Nat} {d:List t.D} {x:t.D} {fp:List Nat} (hM:(bQ t E).Mine w [.slice (some ⟨g,0,none⟩) n cap] d fp) (hx:d[j]?=some x):
 ∃cs f,t.Mine w cs x f/\g∉f/\g∈fp/\(∀b∈f,b∈fp)/\(∀k,k<t.n->w.cell? ⟨g,j*t.n+k,none⟩=cs[k]?)/\(∀k,w.frozen? ⟨g,k,none⟩=false) /\
  (∀w' x',t.Mine w' cs x' f->(∀b∈fp,b∉f->w'.heap[b]?=w.heap[b]?)->w.heap.size<=w'.heap.size->(bQ t E).Mine w' [.slice (some ⟨g,0,none⟩) n cap] (d.set j x') fp) /\
  (∀w' cs' x',t.Mine w' cs' x' f->(∀b∈fp,b∉f->b≠g->w'.heap[b]?=w.heap[b]?)->w.heap.size<=w'.heap.size ->
   (∀cur,w.heap[g]?=some (.cells cur E (0,0))->cur.size=cap*t.n->n<=cap->∃cur',w'.heap[g]?=some (.cells cur' E (0,0))/\cur'.size=cur.size/\∀k,cur'.toList[k]?=if j*t.n<=k/\k<(j+1)*t.n then cs'[k-j*t.n]? else cur.toList[k]?) ->
   (bQ t E).Mine w' [.slice (some ⟨g,0,none⟩) n cap] (d.set j x') fp):=by
 obtain ⟨h,hn⟩:=hM;have hN:=hn;rcases h with ⟨h1,_⟩|⟨b,cap',cur,fps,h1,h2,h3,h4,h5,h6,h7,h8⟩
 . simp at h1
 simp only [List.cons.injEq,Value.slice.injEq,Option.some.injEq,Addr.mk.injEq,and_true] at h1
 obtain ⟨rfl,rfl,rfl⟩:=h1;obtain ⟨f,hf,ho⟩:=h8 j x hx;rw [h6,List.nodup_cons] at hn;obtain ⟨hg,hnf⟩:=hn;obtain ⟨f1,f2,f3⟩:=ez hnf hf;have hgf:g∉f:=fun hm=>hg (f2 g hm);have hgp:g∈fp:=by rw [h6];exact List.mem_cons_self
 have hfp:∀b∈f,b∈fp:=fun b hb=>by rw [h6];exact List.mem_cons_of_mem _ (f2 b hb)
 have hjl:j<d.length:=(List.getElem?_eq_some_iff.1 hx).1;have hyx:∀x' y,(d.set j x')[j]?=some y->y=x':=fun x' y hy=>by
  rw [List.getElem?_set_self hjl] at hy;simpa using hy.symm
 have hin:∀i f',fps[i]?=some f'->∀b∈f',b∈fp/\b≠g:=fun i f' hf' b hb=>by
  have hm:b∈fps.flatten:=List.mem_flatten.2 ⟨f',List.mem_of_getElem? hf',hb⟩;exact ⟨by rw [h6];exact List.mem_cons_of_mem _ hm,fun e=>hg (e▸hm)⟩
 refine ⟨_,f,⟨ho,f1⟩,hgf,hgp,hfp,fun k hk=>?_,fun k=>frozen_of_row w g _ cur E h4,fun w' x' ho' hoth hsz=>?_,fun w' cs' x' ho' hoth hsz hnew=>?_⟩
 . rw [cell_of_row w g _ cur E (0,0) h4,List.getElem?_take,if_pos hk,List.getElem?_drop]
   simp
 . refine ⟨.inr ⟨g,cap,cur,fps,by rw [List.length_set],by rw [List.length_set];exact h2,h3,by rw [hoth g hgp hgf];exact h4,h5,h6,by rw [List.length_set];exact h7,fun i y hy=>?_⟩,hN⟩
   by_cases hij:i=j
   . subst hij
     rw [hyx x' y hy];exact ⟨f,hf,ho'.1⟩
   rw [List.getElem?_set_ne (fun e=>hij e.symm)] at hy;obtain ⟨f',hf',ho2⟩:=h8 i y hy;exact ⟨f',hf',t.owKept ho2 (fun b hb=>hoth b (hin i f' hf' b hb).1 (f3 i f' hf' hij b hb)) hsz⟩
 obtain ⟨cur',hc1,hc2,hc3⟩:=hnew cur h4 h5 h2;have hvl:=t.rdLen (t.owRd ho'.1);have hpart:∀i,((cur'.toList.drop (i*t.n)).take t.n)=if i=j then cs' else (cur.toList.drop (i*t.n)).take t.n:=by
  intro i;apply List.ext_getElem?
  intro k;rw [List.getElem?_take,List.getElem?_drop,hc3];by_cases hk:k<t.n
  . rw [if_pos hk]
    by_cases hij:i=j
    . subst hij
      rw [if_pos rfl,if_pos (by rw [Nat.add_mul];omega),Nat.add_sub_cancel_left]
    rw [if_neg hij,List.getElem?_take,if_pos hk,List.getElem?_drop,if_neg];intro hh;rcases Nat.lt_or_gt_of_ne hij with hlt|hgt
    . have:(i+1)*t.n<=j*t.n:=Nat.mul_le_mul_right _ hlt
      rw [Nat.add_mul] at this;omega
    have:(j+1)*t.n<=i*t.n:=Nat.mul_le_mul_right _ hgt;omega
  rw [if_neg hk];by_cases hij:i=j
  . rw [if_pos hij,List.getElem?_eq_none (by omega)]
  rw [if_neg hij,List.getElem?_take,if_neg hk]
 refine ⟨.inr ⟨g,cap,cur',fps,by rw [List.length_set],by rw [List.length_set];exact h2,h3,hc1,by rw [hc2];exact h5,h6,by rw [List.length_set];exact h7,fun i y hy=>?_⟩,hN⟩
 rw [hpart i];by_cases hij:i=j
 . subst hij
   rw [if_pos rfl,hyx x' y hy];exact ⟨f,hf,ho'.1⟩
 rw [if_neg hij];rw [List.getElem?_set_ne (fun e=>hij e.symm)] at hy;obtain ⟨f',hf',ho2⟩:=h8 i y hy;exact ⟨f',hf',t.owKept ho2 (fun b hb=>hoth b (hin i f' hf' b hb).1 (f3 i f' hf' hij b hb) (hin i f' hf' b hb).2) hsz⟩
theorem oP {t:Ty} {E:TypeId} {w:World} {n cap:Nat} {a:Option Addr} {d:List t.D} {fp:List Nat} (h:(bQ t E).Mine w [.slice a n cap] d fp):n=0∨∃g,a=some ⟨g,0,none⟩:=by
 rcases h.1 with ⟨h1,_⟩|⟨b,cap',cur,fps,h1,_⟩
 . simp at h1
   exact .inl h1.2.1
 simp at h1
 exact .inr ⟨b,h1.1⟩
theorem nN {t:Ty} {E:TypeId} {w:World} {lo:Nat} {v:Value} {d:List t.D} {fp:List Nat} (h:(bQ t E).Mine w [v] d fp) (hlo:∀b∈fp,lo<=b):
 ∃xs,w.ownsRow lo E t.n v d.length xs/\∀w' v' vs x f,t.Mine w vs x f->(∀b∈fp,b∉f)->w'.ownsRow lo E t.n v' (d.length+1) (xs++vs)->w.grownBy w' v.ownBlock->(v'.ownBlock=v.ownBlock∨v'.ownBlock=some w.heap.size) ->
  ∃fp',(bQ t E).Mine w' [v'] (d++[x]) fp'/\(∀b∈fp',b∈fp∨b∈f∨(b=w.heap.size/\b<w'.heap.size))/\aw fp w w':=by
 obtain ⟨h,hn⟩:=h;rcases h with ⟨h1,rfl,rfl⟩|⟨b,cap,cur,fps,h1,h2,h3,h4,h5,rfl,h7,h8⟩
 . simp at h1
   subst h1;refine ⟨[],World.ownsRow_nil _ _ _ _,fun w' v' vs x f hx _ ho hg hat=>?_⟩
   rcases ho.2 with ⟨_,h0⟩|⟨g,cap',cur',hv,hb,hg',hnc,hcm,hcs,htake⟩
   . simp at h0
   have hgs:g=w.heap.size:=by
    rw [hv] at hat;simpa [Value.ownBlock] using hat
   have hgl:g<w'.heap.size:=(Array.getElem?_eq_some_iff.1 hg').1;subst hv;have hfl:[f].flatten=f:=by simp
   have hxlt:=hx.lt;refine ⟨g :: [f].flatten,⟨.inr ⟨g,cap',cur',[f],rfl,hnc,hcm,hg',hcs,rfl,rfl,fun i y hy=>?_⟩,?_⟩,?_,hg.os,hg.tape,hg.output,hg.size,fun k hk _=>hg.block k hk (by simp [Value.ownBlock])⟩
   . match i,hy with
     | 0,hy=>
      simp at hy
      subst hy;refine ⟨f,rfl,?_⟩
      rw [Nat.zero_mul,List.drop_zero];simp only [List.length_nil,Nat.zero_add,Nat.one_mul,List.nil_append] at htake
      rw [htake];exact t.owKept hx.1 (fun b hb=>hg.block b (hxlt b hb) (by simp [Value.ownBlock])) hg.size
   . rw [hfl,List.nodup_cons]
     refine ⟨fun hm=>?_,hx.2⟩
     have:=hxlt g hm;omega
   intro b hb;rw [hfl] at hb;rcases List.mem_cons.1 hb with rfl|hb
   . exact .inr (.inr ⟨hgs,hgl⟩)
   exact .inr (.inl hb)
 have hv:v=.slice (some ⟨b,0,none⟩) d.length cap:=by simpa using h1
 have hbl:b<w.heap.size:=(Array.getElem?_eq_some_iff.1 h4).1;have hle:d.length*t.n<=cap*t.n:=Nat.mul_le_mul_right _ h2;have hxl:(cur.toList.take (d.length*t.n)).length=d.length*t.n:=by
  have hcl:cur.toList.length=cap*t.n:=by rw [Array.length_toList];exact h5
  rw [List.length_take,hcl];omega
 refine ⟨cur.toList.take (d.length*t.n),⟨hxl,.inr ⟨b,cap,cur,hv,hlo b List.mem_cons_self,h4,h2,h3,h5,rfl⟩⟩,fun w' v' vs x f hx hdis ho hg hat=>?_⟩
 rw [List.nodup_cons] at hn;obtain ⟨hbf,hnf⟩:=hn;have hfplt:∀c∈fps.flatten,c<w.heap.size:=by
  intro c hc;obtain ⟨f',hf',hcf⟩:=List.mem_flatten.1 hc;obtain ⟨i,hi⟩:=List.mem_iff_getElem?.1 hf';have hil:i<d.length:=by rw [←h7];exact (List.getElem?_eq_some_iff.1 hi).1
  obtain ⟨f2,hf2,ho2⟩:=h8 i _ (List.getElem?_eq_getElem hil);rw [hi] at hf2;simp at hf2
  subst hf2;exact t.rdLt (t.owRd ho2) c hcf
 have hxlt:=hx.lt;have hbx:b∉f:=hdis b List.mem_cons_self;have hvl:=t.rdLen (t.owRd hx.1);have hkeep:∀c,c<w.heap.size->c≠b->w'.heap[c]?=w.heap[c]?:=fun c hc hne=>hg.block c hc (by rw [hv];simpa [Value.ownBlock] using hne);rcases ho.2 with ⟨_,h0⟩|⟨g,cap',cur',hv',hb,hg',hnc,hcm,hcs,htake⟩
 . omega
 have hgs:g=b∨g=w.heap.size:=by
  rw [hv',hv] at hat;simpa [Value.ownBlock] using hat
 have hgl:g<w'.heap.size:=(Array.getElem?_eq_some_iff.1 hg').1;subst hv';have hfl:(fps++[f]).flatten=fps.flatten++f:=by simp
 have hseg:∀i,i<d.length->(cur'.toList.drop (i*t.n)).take t.n=(cur.toList.drop (i*t.n)).take t.n:=by
  intro i hi;have hmul:(i+1)*t.n<=d.length*t.n:=Nat.mul_le_mul_right _ hi;rw [Nat.add_mul,Nat.one_mul] at hmul;apply List.ext_getElem?
  intro k;rw [List.getElem?_take,List.getElem?_take];by_cases hk:k<t.n
  . rw [if_pos hk,if_pos hk,List.getElem?_drop,List.getElem?_drop]
    have:=congrArg (fun l=>l[i*t.n+k]?) htake;simp only [List.getElem?_take] at this
    rw [if_pos (by rw [Nat.add_mul,Nat.one_mul];omega),List.getElem?_append_left (by rw [hxl];omega),List.getElem?_take,if_pos (by omega)] at this;exact this
  rw [if_neg hk,if_neg hk]
 have hlast:(cur'.toList.drop (d.length*t.n)).take t.n=vs:=by
  apply List.ext_getElem?
  intro k;rw [List.getElem?_take];by_cases hk:k<t.n
  . rw [if_pos hk,List.getElem?_drop]
    have:=congrArg (fun l=>l[d.length*t.n+k]?) htake;simp only [List.getElem?_take] at this
    rw [if_pos (by rw [Nat.add_mul,Nat.one_mul];omega),List.getElem?_append_right (by rw [hxl];omega),hxl,Nat.add_sub_cancel_left] at this;exact this
  rw [if_neg hk,List.getElem?_eq_none (by omega)]
 refine ⟨g :: (fps++[f]).flatten,⟨.inr ⟨g,cap',cur',fps++[f],by simp,by simpa using hnc,hcm,hg',hcs,rfl,by simp [h7],fun i y hy=>?_⟩,?_⟩,?_,hg.os,hg.tape,hg.output,hg.size,fun k hk hf=>hkeep k hk (fun e=>hf (by rw [e];exact List.mem_cons_self))⟩
 . by_cases hi:i<d.length
   . rw [List.getElem?_append_left hi] at hy
     obtain ⟨f2,hf2,ho2⟩:=h8 i y hy;refine ⟨f2,by rw [List.getElem?_append_left (by omega)];exact hf2,?_⟩
     rw [hseg i hi];refine t.owKept ho2 (fun c hc=>hkeep c (t.rdLt (t.owRd ho2) c hc) (fun e=>hbf ?_)) hg.size
     rw [←e];exact List.mem_flatten.2 ⟨f2,List.mem_of_getElem? hf2,hc⟩
   have hil:i=d.length:=by
    have:=(List.getElem?_eq_some_iff.1 hy).1;simp at this
    omega
   subst hil;rw [List.getElem?_append_right (Nat.le_refl _),Nat.sub_self] at hy;simp at hy
   subst hy;refine ⟨f,by rw [List.getElem?_append_right (by omega),h7,Nat.sub_self];rfl,?_⟩
   rw [hlast];exact t.owKept hx.1 (fun c hc=>hkeep c (hxlt c hc) (fun e=>hbx (e▸hc))) hg.size
 . rw [hfl,List.nodup_cons]
   refine ⟨fun hm=>?_,?_⟩
   . rcases List.mem_append.1 hm with hm|hm
     . rcases hgs with rfl|rfl
       . exact hbf hm
       have:=hfplt _ hm;omega
     rcases hgs with rfl|rfl
     . exact hbx hm
     have:=hxlt _ hm;omega
   rw [List.nodup_append];exact ⟨hnf,hx.2,fun a ha c hc e=>hdis a (List.mem_cons_of_mem _ ha) (e▸hc)⟩
 intro c hc;rw [hfl] at hc;rcases List.mem_cons.1 hc with rfl|hc
 . rcases hgs with rfl|hgs
   . exact .inl List.mem_cons_self
   exact .inr (.inr ⟨hgs,hgl⟩)
 rcases List.mem_append.1 hc with hc|hc
 . exact .inl (List.mem_cons_of_mem _ hc)
 exact .inr (.inl hc)
theorem bT {P:Program} {w:World} {ops:Array Oper} {rest:List Oper} {o:Oper} {a:Act} {Q:Exit->Act->World->Prop} (t:Ty) (hgd:o.guard=none) (s x:Operand) (T:TypeId)
 (ho:o.op=.call { callee:=.builtin .append,args:=#[s,x],argTypes:=#[T,T] })
 (E:TypeId) (i:TypeInfo) (z:Value) (bytes:Nat) (ht:P.underlying T=some (.slice E)) (hi:P.info? E=some i) (hz:i.zero=some z)
 (hsize:i.size=t.n) (hby:i.bytes=bytes) (hzs:z.cells.size=t.n) (hsz:0<t.n)
 (v:Value) (d:List t.D) (fp:List Nat) (hs:a.eval s=v) (hown:(bQ t E).Mine w [v] d fp)
 (ad:Addr) (c:Nat) (vs:List Value) (y:t.D) (f:List Nat) (hx:a.eval x=.slice (some ad) 1 c) (hy:t.Mine w vs y f) (hdis:∀b∈fp,b∉f) (hr:∀j u,vs[j]?=some u->w.cell? (ad.add j)=some u) (h1:∀u∈vs,u.oneCell'=true)
 (h63:d.length+1<=maxLen) (hbytes:(d.length+1)*bytes<=140737488355328)
 (h:∀v' w' fp',(bQ t E).Mine w' [v'] (d++[y]) fp'->(∀b∈fp',b∈fp∨b∈f∨(b=w.heap.size/\b<w'.heap.size))->aw fp w w'->wpList P ops Q rest (a.put o.dst v') w'):wpList P ops Q (o :: rest) a w:=by
 obtain ⟨xs,hrow,hback⟩:=nN (lo:=0) hown (fun _ _=>Nat.zero_le _);have hvl:=t.rdLen (t.owRd hy.1);refine wpList_append_own_at w hgd s x T ho 0 E i z t.n bytes ht hi hz hsize hby hzs hsz v d.length xs hs hrow ad 1 c vs hx (by omega) hr h1 h63 hbytes (Nat.zero_le _) ?_
 intro v' w' k1 k2 _ k4;obtain ⟨fp',m1,m2,m3⟩:=hback w' v' vs y f hy hdis k1 k2 k4;exact h v' w' fp' m1 m2 m3
theorem cF {P:Program} {w:World} {ops:Array Oper} {o:Oper} {a:Act} {K:Act->World->Prop} {Q:Exit->Act->World->Prop} {G:Prop} (t:Ty) (hgd:o.guard=none) (s x:Operand) (T:TypeId)
 (ho:o.op=.call { callee:=.builtin .append,args:=#[s,x],argTypes:=#[T,T] })
 (E:TypeId) (i:TypeInfo) (z:Value) (bytes:Nat) (ht:P.underlying T=some (.slice E)) (hi:P.info? E=some i) (hz:i.zero=some z)
 (hsize:i.size=t.n) (hby:i.bytes=bytes) (hzs:z.cells.size=t.n) (hsz:0<t.n)
 (v:Value) (d:List t.D) (fp:List Nat) (hs:a.eval s=v) (hown:(bQ t E).Mine w [v] d fp)
 (ad:Addr) (c:Nat) (vs:List Value) (y:t.D) (f:List Nat) (hx:a.eval x=.slice (some ad) 1 c) (hy:t.Mine w vs y f) (hdis:∀b∈fp,b∉f) (hr:∀j u,vs[j]?=some u->w.cell? (ad.add j)=some u) (h1:∀u∈vs,u.oneCell'=true)
 (h63:d.length+1<=maxLen) (hbytes:(d.length+1)*bytes<=140737488355328)
 (h:∀g cap w' fp',(bQ t E).Mine w' [.slice (some ⟨g,0,none⟩) (d.length+1) cap] (d++[y]) fp'->(∀b∈fp',b∈fp∨b∈f∨(b=w.heap.size/\b<w'.heap.size))->aw fp w w'->K (a.put o.dst (.slice (some ⟨g,0,none⟩) (d.length+1) cap)) w'):
 if Region.wanted o (yielded ops a.tmps)=true then Oper.wp P o a w K Q else G:=by
 obtain ⟨xs,hrow,hback⟩:=nN (lo:=0) hown (fun _ _=>Nat.zero_le _);have hvl:=t.rdLen (t.owRd hy.1);refine step_append_lies w hgd s x T ho 0 E i z t.n bytes ht hi hz hsize hby hzs hsz v d.length xs hs hrow ad 1 c vs hx (by omega) hr h1 Nat.zero_lt_one h63 hbytes (Nat.zero_le _) w.heap.size rfl ?_
 intro g cap w' k1 k2 k3 _;obtain ⟨fp',m1,m2,m3⟩:=hback w' _ vs y f hy hdis k1 k2 (by
  rcases k3 with k3|k3
  . exact .inl k3.symm
  exact .inr (by rw [k3];rfl))
 exact h g cap w' fp' m1 m2 m3
def Box (w:World) (B:Nat) (T:TypeId) (cs:Array Value):Prop:=w.heap[B]?=some (.cells cs T (0,0))
theorem Box.cell {w:World} {B:Nat} {T:TypeId} {cs:Array Value} (h:Box w B T cs) (j:Nat):w.cell? ⟨B,j,none⟩=cs[j]?:=cell_of_row w B j cs T (0,0) h
theorem Box.cells4 {w:World} {B:Nat} {T:TypeId} {v0 v1 v2 v3:Value} (h:Box w B T #[v0,v1,v2,v3]):w.cell? ⟨B,0,none⟩=some v0/\w.cell? ⟨B,1,none⟩=some v1/\w.cell? ⟨B,2,none⟩=some v2/\w.cell? ⟨B,3,none⟩=some v3:=
 ⟨h.cell 0,h.cell 1,h.cell 2,h.cell 3⟩
theorem Box.cells2 {w:World} {B:Nat} {T:TypeId} {v0 v1:Value} (h:Box w B T #[v0,v1]):w.cell? ⟨B,0,none⟩=some v0/\w.cell? ⟨B,1,none⟩=some v1:=⟨h.cell 0,h.cell 1⟩
theorem Box.frozen {w:World} {B:Nat} {T:TypeId} {cs:Array Value} (h:Box w B T cs) (j:Nat):w.frozen? ⟨B,j,none⟩=false:=frozen_of_row w B j cs T h
theorem Box.lt {w:World} {B:Nat} {T:TypeId} {cs:Array Value} (h:Box w B T cs):B<w.heap.size:=(Array.getElem?_eq_some_iff.1 h).1
theorem Box.kept {w w':World} {B:Nat} {T:TypeId} {cs:Array Value} (h:Box w B T cs) (hk:w'.heap[B]?=w.heap[B]?):Box w' B T cs:=hk.trans h
theorem Box.below {w w':World} {B N:Nat} {T:TypeId} {cs:Array Value} (h:Box w B T cs) (hb:Below N w w') (hN:B<N):Box w' B T cs:=h.kept (hb.block B hN)
theorem Box.turned {w w':World} {B:Nat} {T:TypeId} {cs:Array Value} {fp:List Nat} (h:Box w B T cs) (ht:aw fp w w') (hB:B∉fp):Box w' B T cs:=h.kept (ht.block B h.lt hB)
theorem Box.same {w w':World} {B:Nat} {T:TypeId} {cs:Array Value} (h:Box w B T cs) (hs:aN w w'):Box w' B T cs:=h.kept (by rw [hs.heap])
theorem Box.set {w:World} {B:Nat} {T:TypeId} {cs:Array Value} (h:Box w B T cs) (j:Nat) (v:Value):Box (w.setCell ⟨B,j,none⟩ v) B T (cs.setIfInBounds j v):=heap_setCell_same w B j cs T v h
theorem Box.other {w:World} {B g:Nat} {T:TypeId} {cs:Array Value} (h:Box w B T cs) (hne:B≠g) (j:Nat) (v:Value):Box (w.setCell ⟨g,j,none⟩ v) B T cs:=h.kept (Below.heap_setCell _ _ _ _ hne)
theorem Box.alloc {w:World} {B:Nat} {T:TypeId} {cs:Array Value} (h:Box w B T cs) (o:Obj):Box (w.alloc o) B T cs:=h.kept (((Below.refl (B+1) w).alloc h.lt o).block B (Nat.lt_succ_self _))
theorem Box.new (w:World) (T:TypeId) (cs:Array Value):Box (w.alloc (.cells cs T)) w.heap.size T cs:=heap_alloc_new w _
theorem aw.alloc {fp:List Nat} {w w':World} (h:aw fp w w') (o:Obj):aw fp w (w'.alloc o):=
 ⟨h.os,h.tape,h.output,Nat.le_trans h.size (by simp),fun k hk hf=>(((Below.refl (k+1) w').alloc (Nat.lt_of_lt_of_le hk h.size) o).block k (Nat.lt_succ_self _)).trans (h.block k hk hf)⟩
theorem aw.below {fp:List Nat} {w w':World} {N:Nat} (h:aw fp w w') (hN:N<=w.heap.size) (hf:∀b∈fp,N<=b):Below N w w':=
 ⟨h.os,h.tape,h.output,h.size,fun k hk=>h.block k (by omega) (fun hm=>by have:=hf k hm;omega)⟩
theorem aw.ofBelow {w w':World} (h:Below w.heap.size w w') (fp:List Nat):aw fp w w':=⟨h.os,h.tape,h.output,h.size,fun k hk _=>h.block k hk⟩
theorem Ty.Mine.below {t:Ty} {w w':World} {vs:List Value} {d:t.D} {fp:List Nat} (h:t.Mine w vs d fp) (hb:Below w.heap.size w w'):t.Mine w' vs d fp:=h.kept (aw.ofBelow hb []) (by simp)
theorem Ty.Mine.alloc {t:Ty} {w:World} {vs:List Value} {d:t.D} {fp:List Nat} (h:t.Mine w vs d fp) (o:Obj):t.Mine (w.alloc o) vs d fp:=h.kept ((aw.refl [] w).alloc o) (by simp)
theorem Ty.Mine.setCell {t:Ty} {w:World} {vs:List Value} {d:t.D} {fp:List Nat} {g j:Nat} (h:t.Mine w vs d fp) (hg:g∉fp) (v:Value):t.Mine (w.setCell ⟨g,j,none⟩ v) vs d fp:=
 h.kept (aw.setCell (fp:=[g]) v (by simp)) (fun b hb hb'=>hg (by simp at hb';exact hb'▸hb))
theorem Ty.Rd.turned {t:Ty} {w w':World} {vs:List Value} {d:t.D} {fp fq:List Nat} (h:t.rd w vs d fp) (ht:aw fq w w') (hd:∀b∈fp,b∉fq):t.rd w' vs d fp:=t.rdKept h (fun b hb=>ht.block b (t.rdLt h b hb) (hd b hb)) ht.size
theorem dc {t:Ty} {E:TypeId} (w:World):(bQ t E).Mine w [.slice none 0 0] [] []:=⟨.inl ⟨rfl,rfl,rfl⟩,by simp⟩
theorem dJ {t:Ty} {E:TypeId} (w:World):(bQ t E).Mine (w.alloc (.cells #[] E)) [.slice (some ⟨w.heap.size,0,none⟩) 0 0] [] [w.heap.size]:=
 ⟨.inr ⟨w.heap.size,0,#[],[],rfl,Nat.le_refl _,by omega,heap_alloc_new w _,by simp,rfl,rfl,fun i x hx=>by simp at hx⟩,by simp⟩
theorem bk (w:World) (cs:Array Value) (T:TypeId):∀j u,cs.toList[j]?=some u->(w.alloc (.cells cs T)).cell? ((⟨w.heap.size,0,none⟩:Addr).add j)=some u:=World.news_of_block (heap_alloc_new w _)
end Go.Proofs.YtejeekndbnpmoaaGreat
