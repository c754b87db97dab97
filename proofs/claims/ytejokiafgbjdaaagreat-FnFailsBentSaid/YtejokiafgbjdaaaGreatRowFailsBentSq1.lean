/-
 What the loaded program says of its whole numbers and bytes. No condition.
-/
import Derived.WalkKit
import Derived.WalkSpells
import Derived.WalkLawsBesides
import Derived.Handy
import Derived.BigQuiet
import Derived.Deep.QuietTactic
import Derived.Deep.RegionHeld3
import Derived.Deep.AppendLies
import Derived.Test.YtejokiafgbjdaaaGreatRows

set_option maxRecDepth 100000
set_option maxHeartbeats 8000000
set_option linter.unusedSimpArgs false

namespace Go.Proofs.YtejokiafgbjdaaaGreat
open Go.RowKit

def aF (k:IntKind) (w:World) (a:Option Addr) (zs:List Int):Prop:=
 zs=[]∨∃b off,a=some ⟨b,off,none⟩/\b<w.heap.size/\∀i,i<zs.length->w.cell? ⟨b,off+i,none⟩=some (.int k (zs.getD i 0))
theorem aF.below {k:IntKind} {w w':World} {a:Option Addr} {zs:List Int} (h:aF k w a zs) (hb:Below w.heap.size w w'):aF k w' a zs:=by
 rcases h with h|⟨b,off,ha,hlt,hc⟩
 . exact .inl h
 refine .inr ⟨b,off,ha,Nat.lt_of_lt_of_le hlt hb.size,fun i hi=>?_⟩
 rw [hb.cell (p:=⟨b,off+i,none⟩) hlt];exact hc i hi
theorem aF.draw {k:IntKind} {w:World} {a:Option Addr} {zs:List Int} (h:aF k w a zs):aF k w.drew a zs:=h
theorem aF.old {k:IntKind} {w w':World} {a:Option Addr} {zs:List Int} {B:Nat} (h:aF k w a zs) (hB:∀x,a=some x->x.block<B) (hb:Below B w w'):aF k w' a zs:=by
 rcases h with h|⟨b,off,ha,hlt,hc⟩
 . exact .inl h
 refine .inr ⟨b,off,ha,Nat.lt_of_lt_of_le hlt hb.size,fun i hi=>?_⟩
 have hx:b<B:=hB _ ha;rw [hb.cell (p:=⟨b,off+i,none⟩) hx];exact hc i hi
structure aH (w w':World):Prop where
 os:w'.os=w.os
 tape:w'.tape=w.tape
 output:w'.output=w.output
 heap:w'.heap=w.heap
theorem aH.refl (w:World):aH w w:=⟨rfl,rfl,rfl,rfl⟩
theorem aH.trans {a b c:World} (h:aH a b) (k:aH b c):aH a c:=⟨k.os.trans h.os,k.tape.trans h.tape,k.output.trans h.output,k.heap.trans h.heap⟩
theorem aH.drew {a w:World} (h:aH a w):aH a w.drew:=⟨h.os,h.tape,h.output,h.heap⟩
theorem aH.drewN {a w:World} (h:aH a w) (n:Nat):aH a (w.drewN n):=⟨h.os,h.tape,h.output,h.heap⟩
theorem aH.below {w w':World} (h:aH w w') (B:Nat):Below B w w':=⟨h.os,h.tape,h.output,by rw [h.heap];exact Nat.le_refl _,fun _ _=>by rw [h.heap]⟩
theorem aH.cell {w w':World} (h:aH w w') (p:Addr):w'.cell? p=w.cell? p:=(h.below (p.block+1)).cell (Nat.lt_succ_self _)
theorem aH.size {w w':World} (h:aH w w'):w'.heap.size=w.heap.size:=by rw [h.heap]
theorem aF.same {k:IntKind} {w w':World} {a:Option Addr} {zs:List Int} (h:aF k w a zs) (hs:aH w w'):aF k w' a zs:=h.below (hs.below _)
theorem aF.cases {k:IntKind} {w:World} {a:Option Addr} {zs:List Int} (h:aF k w a zs):zs.length=0∨∃b off,a=some ⟨b,off,none⟩/\b<w.heap.size/\∀i,i<zs.length->w.cell? ⟨b,off+i,none⟩=some (.int k (zs.getD i 0)):=by
 rcases h with h|h
 . exact .inl (by rw [h];rfl)
 exact .inr h
def br (k:IntKind) (E:TypeId) (w:World) (base:Nat) (v:Value) (zs:List Int):Prop:=
 w.ownsRow base E 1 v zs.length (zs.map (Value.int k))
theorem br.shape {k:IntKind} {E:TypeId} {w:World} {base:Nat} {v:Value} {zs:List Int} (h:br k E w base v zs):
 ∃a cap,v=.slice a zs.length cap/\aF k w a zs/\(∀x,a=some x->base<=x.block/\x.block<w.heap.size):=by
 rcases h.2 with ⟨hv,hn⟩|⟨g,cap,cur,hv,hb,hg,hnc,hcm,hcs,ht⟩
 . refine ⟨none,0,by rw [hv,hn],.inl (List.eq_nil_of_length_eq_zero hn),by simp⟩
 have hlt:g<w.heap.size:=(Array.getElem?_eq_some_iff.1 hg).1;refine ⟨some ⟨g,0,none⟩,cap,hv,.inr ⟨g,0,rfl,hlt,fun i hi=>?_⟩,?_⟩
 . have h':w.ownsRow base E 1 (.slice (some ⟨g,0,none⟩) zs.length cap) zs.length (zs.map (Value.int k)):=by rw [←hv];exact h
   have:=h'.cellAt i (by omega);rw [Nat.zero_add,this];simp [List.getElem?_eq_getElem hi]
 intro x hx;simp at hx
 subst hx;exact ⟨hb,hlt⟩
theorem br.below {k:IntKind} {E:TypeId} {w w':World} {base B:Nat} {v:Value} {zs:List Int} (h:br k E w base v zs) (hb:Below B w w') (hB:w.heap.size<=B):br k E w' base v zs:=by
 refine ⟨h.1,?_⟩
 rcases h.2 with h2|⟨g,cap,cur,hv,hbg,hg,r⟩
 . exact .inl h2
 have hlt:g<w.heap.size:=(Array.getElem?_eq_some_iff.1 hg).1;exact .inr ⟨g,cap,cur,hv,hbg,by rw [hb.block g (by omega)];exact hg,r⟩
theorem br.lower {k:IntKind} {E:TypeId} {w:World} {base base':Nat} {v:Value} {zs:List Int} (h:br k E w base v zs) (hb:base'<=base):br k E w base' v zs:=by
 refine ⟨h.1,?_⟩
 rcases h.2 with h2|⟨g,cap,cur,hv,hbg,r⟩
 . exact .inl h2
 exact .inr ⟨g,cap,cur,hv,by omega,r⟩
theorem ag {a b:Bool} (h:a=b):Ending.returned (.bool a)=.returned (.bool b):=by rw [h]
theorem aP {k:IntKind} {a b:Int} (h:a=b):Ending.returned (.int k a)=.returned (.int k b):=by rw [h]
theorem rM (k:IntKind) (n:Nat):(madeCells (Value.int k 0).cells (n*1)).toList=(List.replicate n (0:Int)).map (Value.int k):=by
 apply List.ext_getElem?
 intro i;by_cases h:i<n
 . simp [madeCells,h,Value.cells,Nat.mod_one]
 simp [madeCells,h]
theorem oU {xs ys:List Int} {j:Nat} (h1:j<xs.length) (h2:j<ys.length):
 (xs.getD j 0=ys.getD j 0->xs.take j=ys.take j->xs.take (j+1)=ys.take (j+1))/\(xs.getD j 0≠ys.getD j 0->xs≠ys):=by
 refine ⟨fun h ht=>?_,fun h he=>h (by rw [he])⟩
 rw [List.take_succ_eq_append_getElem h1,List.take_succ_eq_append_getElem h2,ht];simp only [List.getD_eq_getElem?_getD,List.getElem?_eq_getElem h1,List.getElem?_eq_getElem h2,Option.getD_some] at h
 rw [h]
theorem Below.andThen {w w1 w2:World} (h:Below w.heap.size w w1) (k:Below w1.heap.size w1 w2):Below w.heap.size w w2:=h.trans (k.mono h.size)
theorem Below.andSame {w w1 w2:World} (h:Below w.heap.size w w1) (k:aH w1 w2):Below w.heap.size w w2:=h.trans (k.below _)
theorem br.reads {k:IntKind} {E:TypeId} {w:World} {base n cap:Nat} {a:Option Addr} {zs:List Int} (h:br k E w base (.slice a n cap) zs):aF k w a zs:=by
 obtain ⟨a',cap',hv,hr,_⟩:=h.shape;simp only [Value.slice.injEq] at hv
 rw [hv.1];exact hr
def oV (k:IntKind) (w:World) (a:Option Addr) (len cap:Nat) (zs:List Int):Prop:=
 (a=none/\len=0/\cap=0/\zs=[]) ∨
 ∃x,a=some x/\len<=cap/\cap<=maxLen/\zs.length=cap/\(∀i,i<zs.length->w.cell? (x.add i)=some (.int k (zs.getD i 0)))/\∀n∈zs,(Lit.int k n).wf=true
theorem oV.reads {k:IntKind} {w:World} {a:Option Addr} {len cap:Nat} {zs:List Int} (h:oV k w a len cap zs):
 aF k w a (zs.take len)/\(zs.take len).length=len/\(∀n∈zs.take len,(Lit.int k n).wf=true)/\len<=maxLen:=by
 rcases h with ⟨rfl,rfl,rfl,rfl⟩|⟨x,rfl,hl,hm,hz,hc,hw⟩
 . exact ⟨.inl rfl,rfl,by simp,Nat.zero_le _⟩
 have hlen:(zs.take len).length=len:=by simp;omega
 refine ⟨?_,hlen,fun n hn=>hw n (List.mem_of_mem_take hn),Nat.le_trans hl hm⟩
 by_cases h0:len=0
 . subst h0
   exact .inl (by simp)
 obtain ⟨b,off,spot⟩:=x;have hc0:=hc 0 (by omega);have hspot:spot=none:=by simpa [Addr.add] using World.cell?_spot hc0
 subst hspot;refine .inr ⟨b,off,rfl,World.block_lt_of_cell? w _ hc0,fun i hi=>?_⟩
 have hi':i<len:=by omega
 have:=hc i (by omega);have ea:(⟨b,off,none⟩:Addr).add i=⟨b,off+i,none⟩:=by unfold Addr.add;split<;>simp_all
 rw [ea] at this;rw [List.getD_eq_getElem?_getD,List.getElem?_take,if_pos hi',←List.getD_eq_getElem?_getD];exact this
structure But (lo hi:Nat) (w w':World):Prop where
 os:w'.os=w.os
 tape:w'.tape=w.tape
 output:w'.output=w.output
 size:w.heap.size<=w'.heap.size
 block:∀k,k<w.heap.size->(k<lo∨hi<=k)->w'.heap[k]?=w.heap[k]?
theorem But.refl (lo hi:Nat) (w:World):But lo hi w w:=⟨rfl,rfl,rfl,Nat.le_refl _,fun _ _ _=>rfl⟩
theorem But.trans {lo hi:Nat} {a b c:World} (h:But lo hi a b) (k:But lo hi b c):But lo hi a c:=
 ⟨k.os.trans h.os,k.tape.trans h.tape,k.output.trans h.output,Nat.le_trans h.size k.size,fun i hi' ho=>(k.block i (Nat.lt_of_lt_of_le hi' h.size) ho).trans (h.block i hi' ho)⟩
theorem But.below {lo hi B:Nat} {w w':World} (h:But lo hi w w') (hB:B<=lo) (hw:B<=w.heap.size):Below B w w':=
 ⟨h.os,h.tape,h.output,h.size,fun k hk=>h.block k (by omega) (.inl (by omega))⟩
theorem But.of_grown {lo hi g:Nat} {w w':World} (h:w.grownBy w' (some g)) (h1:lo<=g) (h2:g<hi):But lo hi w w':=
 ⟨h.os,h.tape,h.output,h.size,fun k hk ho=>h.block k hk (by intro e;simp at e;omega)⟩
theorem Below.andBut {w w1 w2:World} {lo hi:Nat} (h:Below w.heap.size w w1) (k:But lo hi w1 w2) (hlo:w.heap.size<=lo):Below w.heap.size w w2:=
 h.trans (k.below hlo h.size)
def Own (k:IntKind) (E:TypeId) (w:World) (lo hi:Nat) (v:Value) (zs:List Int):Prop:=
 br k E w lo v zs/\∀g,v.ownBlock=some g->g<hi
theorem br.own {k:IntKind} {E:TypeId} {w:World} {lo:Nat} {v:Value} {zs:List Int} (h:br k E w lo v zs):Own k E w lo w.heap.size v zs:=
 ⟨h,fun g hg=>(World.ownsRow.lt h g hg).2⟩
theorem Own.reads {k:IntKind} {E:TypeId} {w:World} {lo hi n cap:Nat} {a:Option Addr} {zs:List Int} (h:Own k E w lo hi (.slice a n cap) zs):aF k w a zs:=h.1.reads
theorem Own.below {k:IntKind} {E:TypeId} {w w':World} {lo hi:Nat} {v:Value} {zs:List Int} (h:Own k E w lo hi v zs) (hb:Below w.heap.size w w'):Own k E w' lo hi v zs:=
 ⟨h.1.below hb (Nat.le_refl _),h.2⟩
theorem Own.same {k:IntKind} {E:TypeId} {w w':World} {lo hi:Nat} {v:Value} {zs:List Int} (h:Own k E w lo hi v zs) (hs:aH w w'):Own k E w' lo hi v zs:=h.below (hs.below _)
theorem Own.but {k:IntKind} {E:TypeId} {w w':World} {lo hi l h':Nat} {v:Value} {zs:List Int} (h:Own k E w lo hi v zs) (hb:But l h' w w') (hd:hi<=l∨h'<=lo):Own k E w' lo hi v zs:=by
 refine ⟨⟨h.1.1,?_⟩,h.2⟩
 rcases h.1.2 with h2|⟨g,cap,cur,hv,hbg,hg,r⟩
 . exact .inl h2
 have hlt:g<w.heap.size:=(Array.getElem?_eq_some_iff.1 hg).1;have hhi:g<hi:=h.2 g (by rw [hv];rfl);exact .inr ⟨g,cap,cur,hv,hbg,by rw [hb.block g hlt (by omega)];exact hg,r⟩
theorem Own.shape {k:IntKind} {E:TypeId} {w:World} {lo hi:Nat} {v:Value} {zs:List Int} (h:Own k E w lo hi v zs):∃a cap,v=.slice a zs.length cap:=by
 obtain ⟨a,cap,hv,_⟩:=h.1.shape;exact ⟨a,cap,hv⟩
theorem Own.length {k:IntKind} {E:TypeId} {w:World} {lo hi n cap:Nat} {a:Option Addr} {zs:List Int} (h:Own k E w lo hi (.slice a n cap) zs):zs.length=n:=by
 obtain ⟨a',cap',hv⟩:=h.shape;simp only [Value.slice.injEq] at hv
 exact hv.2.1.symm
theorem Own.cases {k:IntKind} {E:TypeId} {w:World} {lo hi n cap:Nat} {a:Option Addr} {zs:List Int} (h:Own k E w lo hi (.slice a n cap) zs):
 n=0∨∃g,a=some ⟨g,0,none⟩/\lo<=g/\g<hi:=by
 rcases h.1.2 with ⟨hv,hn⟩|⟨g,cap',cur,hv,hbg,hg,r⟩
 . simp only [Value.slice.injEq] at hv
   exact .inl hv.2.1
 simp only [Value.slice.injEq] at hv
 exact .inr ⟨g,hv.1,hbg,h.2 g (by rw [hv.1];rfl)⟩
theorem Own.store {k:IntKind} {E:TypeId} {w:World} {lo hi n cap g:Nat} {zs:List Int} (h:Own k E w lo hi (.slice (some ⟨g,0,none⟩) n cap) zs) (j:Nat) (hj:j<n) (x:Int):
 w.cell? ⟨g,j,none⟩=some (.int k (zs.getD j 0))/\w.frozen? ⟨g,j,none⟩=false /\
 Own k E (w.setCell ⟨g,j,none⟩ (.int k x)) lo hi (.slice (some ⟨g,0,none⟩) n cap) (zs.set j x)/\But lo hi w (w.setCell ⟨g,j,none⟩ (.int k x)):=by
 have hl:=h.length;have h1:w.ownsRow lo E 1 (.slice (some ⟨g,0,none⟩) n cap) n (zs.map (Value.int k)):=by have:=h.1;unfold br at this;rw [hl] at this;exact this
 have hg1:lo<=g:=(World.ownsRow.lt h1 g rfl).1;have hg2:g<hi:=h.2 g rfl;refine ⟨?_,h1.frozenAt j,⟨?_,h.2⟩,But.of_grown (h1.stored j _).2 hg1 hg2⟩
 . rw [h1.cellAt j (by omega)]
   simp [List.getElem?_eq_getElem (show j<zs.length by omega)]
 have:=(h1.stored j (.int k x)).1;unfold br;rw [List.length_set,hl,List.map_set];exact this
theorem aF.cells {k:IntKind} {w:World} {ad:Addr} {ys:List Int} (h:aF k w (some ad) ys):∀j u,(ys.map (Value.int k))[j]?=some u->w.cell? (ad.add j)=some u:=by
 intro j u hu;rw [List.getElem?_map] at hu;rcases h with h|⟨b,off,ha,hlt,hc⟩
 . subst h
   simp at hu
 simp at ha
 subst ha;have hj:j<ys.length:=by
  by_cases hj:j<ys.length
  . exact hj
  rw [List.getElem?_eq_none (by omega)] at hu;simp at hu
 rw [List.getElem?_eq_getElem hj] at hu;simp at hu
 have ea:(⟨b,off,none⟩:Addr).add j=⟨b,off+j,none⟩:=by unfold Addr.add;split<;>simp_all
 rw [ea,hc j hj,←hu];simp [List.getElem?_eq_getElem hj]
theorem lk {k:IntKind} (ys:List Int):∀u∈ys.map (Value.int k),u.oneCell'=true:=by
 intro u hu;obtain ⟨n,_,rfl⟩:=List.mem_map.1 hu;rfl
theorem aF.new (k:IntKind) (w:World) (E:TypeId) (ys:List Int) (cs:Array Value) (h:cs=(ys.map (Value.int k)).toArray):aF k (w.alloc (.cells cs E)) (some ⟨w.heap.size,0,none⟩) ys:=by
 refine .inr ⟨w.heap.size,0,rfl,by simp,fun i hi=>?_⟩
 rw [cell_of_row (w.alloc (.cells cs E)) w.heap.size (0+i) cs E (0,0) (heap_alloc_new w _),h];simp [List.getElem?_eq_getElem hi]
theorem br.alloc {k:IntKind} {E:TypeId} {w:World} {lo:Nat} {v:Value} {zs:List Int} (h:br k E w lo v zs) (o:Obj):br k E (w.alloc o) lo v zs:=World.ownsRow.alloc h o
theorem br.drewN {k:IntKind} {E:TypeId} {w:World} {lo:Nat} {v:Value} {zs:List Int} (h:br k E w lo v zs) (n:Nat):br k E (w.drewN n) lo v zs:=h
theorem br.drew {k:IntKind} {E:TypeId} {w:World} {lo:Nat} {v:Value} {zs:List Int} (h:br k E w lo v zs):br k E w.drew lo v zs:=h
theorem br.grown {k:IntKind} {E:TypeId} {w w':World} {lo:Nat} {v:Value} {zs:List Int} (h:br k E w lo v zs) (hg:w.grownBy w' none):br k E w' lo v zs:=World.ownsRow.kept h hg (by cases hv:v.ownBlock<;>simp)
theorem cY {P:Program} {w:World} {ops:Array Oper} {rest:List Oper} {o:Oper} {a:Act} {Q:Exit->Act->World->Prop} (k:IntKind) (hgd:o.guard=none) (s x:Operand) (t:TypeId)
 (ho:o.op=.call { callee:=.builtin .append,args:=#[s,x],argTypes:=#[t,t] })
 (lo:Nat) (E:TypeId) (i:TypeInfo) (z:Value) (bytes:Nat) (ht:P.underlying t=some (.slice E)) (hi:P.info? E=some i) (hz:i.zero=some z)
 (hsize:i.size=1) (hby:i.bytes=bytes) (hzs:z.cells.size=1)
 (v:Value) (zs:List Int) (hs:a.eval s=v) (hown:br k E w lo v zs)
 (ad:Addr) (m c:Nat) (ys:List Int) (hx:a.eval x=.slice (some ad) m c) (hl:ys.length=m) (hr:aF k w (some ad) ys)
 (h63:zs.length+m<=maxLen) (hbytes:(zs.length+m)*bytes<=140737488355328) (hbase:lo<=w.heap.size)
 (h:∀v' w',br k E w' lo v' (zs++ys)->Below lo w w'->wpList P ops Q rest (a.put o.dst v') w'):wpList P ops Q (o :: rest) a w:=by
 refine wpList_append_own w hgd s x t ho lo E i z 1 bytes ht hi hz hsize hby hzs (by decide) v zs.length (zs.map (Value.int k)) hs hown ad m c (ys.map (Value.int k)) hx (by simp [hl]) hr.cells (lk ys) h63 hbytes hbase ?_
 intro v' w' h1 h2 _;refine h v' w' ?_ ((Below.refl _ _).grown h2 hbase (fun g hg=>(World.ownsRow.lt hown g hg).1))
 unfold br;rw [List.map_append,List.length_append,hl];exact h1
theorem br.lit (k:IntKind) (E:TypeId) (w:World) (ys:List Int) (n:Nat) (cs:Array Value) (h:cs=(ys.map (Value.int k)).toArray) (hn:ys.length=n) (hm:n<=maxLen):br k E (w.alloc (.cells cs E)) w.heap.size (.slice (some ⟨w.heap.size,0,none⟩) n n) ys:=by
 have:=World.ownsRow_lit (base:=w.heap.size) (e:=E) (size:=1) w cs n (Nat.le_refl _) hm (by rw [h];simp [hn]);unfold br;rw [hn];rw [h] at this;rw [h];simpa using this
theorem br.take {k:IntKind} {E:TypeId} {w:World} {lo n:Nat} {v:Value} {zs ps:List Int} (h:br k E w lo v zs) (hp:zs=ps) (hn:ps.length=n):
 ∃a cap,v=.slice a n cap/\Own k E w lo w.heap.size (.slice a n cap) ps:=by
 subst hp;obtain ⟨a,cap,hv,_⟩:=h.shape;rw [hn] at hv;exact ⟨a,cap,hv,by rw [←hv];exact h.own⟩
theorem But.setCell {lo hi g j:Nat} {w:World} (h1:lo<=g) (h2:g<hi) (u:Value):But lo hi w (w.setCell ⟨g,j,none⟩ u):=
 ⟨rfl,rfl,rfl,by simp [World.setCell],fun k _ ho=>Below.heap_setCell _ _ _ _ (by simp;omega)⟩
theorem But.drewN {lo hi:Nat} {a w:World} (h:But lo hi a w) (n:Nat):But lo hi a (w.drewN n):=⟨h.os,h.tape,h.output,h.size,h.block⟩
theorem But.of_below {lo hi:Nat} {w w':World} (h:Below w.heap.size w w'):But lo hi w w':=⟨h.os,h.tape,h.output,h.size,fun k hk _=>h.block k hk⟩
theorem But.alloc {lo hi:Nat} {a w:World} (h:But lo hi a w) (o:Obj):But lo hi a (w.alloc o):=h.trans (But.of_below ((Below.refl _ _).alloc (Nat.le_refl _) o))
theorem But.thenBelow {lo hi:Nat} {w0 wr w1:World} (h:But lo hi w0 wr) (k:Below w0.heap.size wr w1):But lo hi w0 w1:=
 ⟨k.os.trans h.os,k.tape.trans h.tape,k.output.trans h.output,Nat.le_trans h.size k.size,fun i hi' ho=>(k.block i hi').trans (h.block i hi' ho)⟩
theorem aa {p:Prop} (h:p):Hid p:=h
theorem ah (w:World) (o:Obj):Below w.heap.size w (w.alloc o):=(Below.refl _ _).alloc (Nat.le_refl _) _
structure Ty where
 n:Nat
 D:Type
 rd:World->List Value->D->List Nat->Prop
 ow:World->List Value->D->List Nat->Prop
 owRd:∀{w vs d fp},ow w vs d fp->rd w vs d fp
 rdLen:∀{w vs d fp},rd w vs d fp->vs.length=n
 rdLt:∀{w vs d fp},rd w vs d fp->∀b∈fp,b<w.heap.size
 rdKept:∀{w w' vs d fp},rd w vs d fp->(∀b∈fp,w'.heap[b]?=w.heap[b]?)->w.heap.size<=w'.heap.size->rd w' vs d fp
 owKept:∀{w w' vs d fp},ow w vs d fp->(∀b∈fp,w'.heap[b]?=w.heap[b]?)->w.heap.size<=w'.heap.size->ow w' vs d fp
theorem cM {w w':World} {b:Nat} (h:w'.heap[b]?=w.heap[b]?) (off:Nat):w'.cell? ⟨b,off,none⟩=w.cell? ⟨b,off,none⟩:=World.cell?_of_block (w:=w) h
abbrev eo:Ty where
 n:=1
 D:=Int
 rd:=fun _ vs d fp=>vs=[.int .i64 d]/\fp=[]
 ow:=fun _ vs d fp=>vs=[.int .i64 d]/\fp=[]
 owRd:=fun h=>h
 rdLen:=fun h=>by rw [h.1];rfl
 rdLt:=fun h=>by rw [h.2];simp
 rdKept:=fun h _ _=>h
 owKept:=fun h _ _=>h
abbrev eY:Ty where
 n:=1
 D:=Bool
 rd:=fun _ vs d fp=>vs=[.bool d]/\fp=[]
 ow:=fun _ vs d fp=>vs=[.bool d]/\fp=[]
 owRd:=fun h=>h
 rdLen:=fun h=>by rw [h.1];rfl
 rdLt:=fun h=>by rw [h.2];simp
 rdKept:=fun h _ _=>h
 owKept:=fun h _ _=>h
abbrev dO (t u:Ty):Ty where
 n:=t.n+u.n
 D:=t.D×u.D
 rd:=fun w vs d fp=>∃f1 f2,fp=f1++f2/\t.rd w (vs.take t.n) d.1 f1/\u.rd w (vs.drop t.n) d.2 f2/\vs.length=t.n+u.n
 ow:=fun w vs d fp=>∃f1 f2,fp=f1++f2/\t.ow w (vs.take t.n) d.1 f1/\u.ow w (vs.drop t.n) d.2 f2/\vs.length=t.n+u.n
 owRd:=fun ⟨f1,f2,h,h1,h2,h3⟩=>⟨f1,f2,h,t.owRd h1,u.owRd h2,h3⟩
 rdLen:=fun ⟨_,_,_,_,_,h3⟩=>h3
 rdLt:=fun ⟨f1,f2,h,h1,h2,_⟩ b hb=>by
  rw [h] at hb;rcases List.mem_append.1 hb with hb|hb
  . exact t.rdLt h1 b hb
  exact u.rdLt h2 b hb
 rdKept:=fun ⟨f1,f2,h,h1,h2,h3⟩ hk hs=>⟨f1,f2,h,t.rdKept h1 (fun b hb=>hk b (by rw [h];exact List.mem_append_left _ hb)) hs,u.rdKept h2 (fun b hb=>hk b (by rw [h];exact List.mem_append_right _ hb)) hs,h3⟩
 owKept:=fun ⟨f1,f2,h,h1,h2,h3⟩ hk hs=>⟨f1,f2,h,t.owKept h1 (fun b hb=>hk b (by rw [h];exact List.mem_append_left _ hb)) hs,u.owKept h2 (fun b hb=>hk b (by rw [h];exact List.mem_append_right _ hb)) hs,h3⟩
def rowRd (t:Ty) (w:World) (b off:Nat) (d:List t.D) (fps:List (List Nat)):Prop:=
 fps.length=d.length/\∀i x,d[i]?=some x->∃f cs,fps[i]?=some f/\t.rd w cs x f/\∀j,j<t.n->w.cell? ⟨b,off+(i*t.n+j),none⟩=cs[j]?
def rowOw (t:Ty) (w:World) (cur:List Value) (d:List t.D) (fps:List (List Nat)):Prop:=
 fps.length=d.length/\∀i x,d[i]?=some x->∃f,fps[i]?=some f/\t.ow w ((cur.drop (i*t.n)).take t.n) x f
abbrev bH (t:Ty) (E:TypeId):Ty where
 n:=1
 D:=List t.D
 rd:=fun w vs d fp=>∃a cap,vs=[.slice a d.length cap]/\d.length<=cap/\cap<=9223372036854775807 /\
  ((d.length=0/\fp=[]/\(a=none->cap=0))∨∃b off fps,a=some ⟨b,off,none⟩/\b<w.heap.size/\fp=b :: fps.flatten/\rowRd t w b off d fps)
 ow:=fun w vs d fp=>(vs=[.slice none 0 0]/\d=[]/\fp=[]) ∨
  ∃b cap cur fps,vs=[.slice (some ⟨b,0,none⟩) d.length cap]/\d.length<=cap/\cap<=9223372036854775807/\w.heap[b]?=some (.cells cur E (0,0))/\cur.size=cap*t.n/\fp=b :: fps.flatten/\rowOw t w cur.toList d fps
 owRd:=fun {w vs d fp} h=>by
  rcases h with ⟨h1,h2,h3⟩|⟨b,cap,cur,fps,h1,h2,h3,h4,h5,h6,h7,h8⟩
  . refine ⟨none,0,?_,?_,?_,.inl ⟨?_,h3,fun _=>rfl⟩⟩
    . rw [h1,h2];rfl
    . rw [h2];exact Nat.le_refl _
    . omega
    rw [h2];rfl
  refine ⟨_,cap,h1,h2,h3,.inr ⟨b,0,fps,rfl,(Array.getElem?_eq_some_iff.1 h4).1,h6,h7,fun i x hx=>?_⟩⟩
  obtain ⟨f,hf,ho⟩:=h8 i x hx;refine ⟨f,_,hf,t.owRd ho,fun j hj=>?_⟩
  rw [cell_of_row w b _ cur E (0,0) h4,List.getElem?_take,if_pos hj,List.getElem?_drop];simp
 rdLen:=fun ⟨_,_,h,_⟩=>by rw [h];rfl
 rdLt:=fun {w vs d fp} ⟨a,cap,h1,h2,h3,h4⟩ b hb=>by
  rcases h4 with ⟨_,h5,_⟩|⟨b',off,fps,_,h5,h6,h7,h8⟩
  . rw [h5] at hb;simp at hb
  rw [h6] at hb;rcases List.mem_cons.1 hb with rfl|hb
  . exact h5
  obtain ⟨f,hf,hbf⟩:=List.mem_flatten.1 hb;obtain ⟨i,hi⟩:=List.mem_iff_getElem?.1 hf;have hil:i<d.length:=by rw [←h7];exact (List.getElem?_eq_some_iff.1 hi).1
  obtain ⟨f',cs,hf',hrd,_⟩:=h8 i _ (List.getElem?_eq_getElem hil);rw [hi] at hf';simp at hf'
  subst hf';exact t.rdLt hrd b hbf
 rdKept:=fun {w w' vs d fp} ⟨a,cap,h1,h2,h3,h4⟩ hk hs=>by
  refine ⟨a,cap,h1,h2,h3,?_⟩
  rcases h4 with h4|⟨b,off,fps,h5,h6,h7,h8,h9⟩
  . exact .inl h4
  have hb:w'.heap[b]?=w.heap[b]?:=hk b (by rw [h7];exact List.mem_cons_self);refine .inr ⟨b,off,fps,h5,Nat.lt_of_lt_of_le h6 hs,h7,h8,fun i x hx=>?_⟩
  obtain ⟨f,cs,hf,hrd,hc⟩:=h9 i x hx;refine ⟨f,cs,hf,t.rdKept hrd (fun b' hb'=>hk b' ?_) hs,fun j hj=>?_⟩
  . rw [h7]
    exact List.mem_cons_of_mem _ (List.mem_flatten.2 ⟨f,List.mem_of_getElem? hf,hb'⟩)
  rw [cM hb,hc j hj]
 owKept:=fun {w w' vs d fp} h hk hs=>by
  rcases h with h|⟨b,cap,cur,fps,h1,h2,h3,h4,h5,h6,h7,h8⟩
  . exact .inl h
  refine .inr ⟨b,cap,cur,fps,h1,h2,h3,?_,h5,h6,h7,fun i x hx=>?_⟩
  . rw [hk b (by rw [h6];exact List.mem_cons_self)];exact h4
  obtain ⟨f,hf,ho⟩:=h8 i x hx;refine ⟨f,hf,t.owKept ho (fun b' hb'=>hk b' ?_) hs⟩
  rw [h6];exact List.mem_cons_of_mem _ (List.mem_flatten.2 ⟨f,List.mem_of_getElem? hf,hb'⟩)
def Ty.Rd (t:Ty) (w:World) (vs:List Value) (d:t.D):Prop:=∃fp,t.rd w vs d fp
def Ty.Own (t:Ty) (w:World) (lo hi:Nat) (vs:List Value) (d:t.D):Prop:=∃fp,t.ow w vs d fp/\fp.Nodup/\∀b∈fp,lo<=b/\b<hi
theorem Ty.Rd.below {t:Ty} {w w':World} {vs:List Value} {d:t.D} (h:t.Rd w vs d) (hb:Below w.heap.size w w'):t.Rd w' vs d:=by
 obtain ⟨fp,h⟩:=h;exact ⟨fp,t.rdKept h (fun b hb'=>hb.block b (t.rdLt h b hb')) hb.size⟩
theorem Ty.Rd.same {t:Ty} {w w':World} {vs:List Value} {d:t.D} (h:t.Rd w vs d) (hs:aH w w'):t.Rd w' vs d:=h.below (hs.below _)
theorem Ty.Rd.drew {t:Ty} {w:World} {vs:List Value} {d:t.D} (h:t.Rd w vs d):t.Rd w.drew vs d:=h.same ((aH.refl w).drew)
theorem Ty.Own.rd {t:Ty} {w:World} {lo hi:Nat} {vs:List Value} {d:t.D} (h:t.Own w lo hi vs d):t.Rd w vs d:=by
 obtain ⟨fp,h,_⟩:=h;exact ⟨fp,t.owRd h⟩
theorem Ty.Own.below {t:Ty} {w w':World} {lo hi:Nat} {vs:List Value} {d:t.D} (h:t.Own w lo hi vs d) (hb:Below w.heap.size w w'):t.Own w' lo hi vs d:=by
 obtain ⟨fp,h,hn,hr⟩:=h;exact ⟨fp,t.owKept h (fun b hb'=>hb.block b (t.rdLt (t.owRd h) b hb')) hb.size,hn,hr⟩
theorem Ty.Own.same {t:Ty} {w w':World} {lo hi:Nat} {vs:List Value} {d:t.D} (h:t.Own w lo hi vs d) (hs:aH w w'):t.Own w' lo hi vs d:=h.below (hs.below _)
theorem Ty.Own.but {t:Ty} {w w':World} {lo hi l h':Nat} {vs:List Value} {d:t.D} (h:t.Own w lo hi vs d) (hb:But l h' w w') (hd:hi<=l∨h'<=lo):t.Own w' lo hi vs d:=by
 obtain ⟨fp,h,hn,hr⟩:=h;exact ⟨fp,t.owKept h (fun b hb'=>hb.block b (t.rdLt (t.owRd h) b hb') (by have:=hr b hb';omega)) hb.size,hn,hr⟩
theorem Ty.Own.widen {t:Ty} {w:World} {lo hi lo' hi':Nat} {vs:List Value} {d:t.D} (h:t.Own w lo hi vs d) (h1:lo'<=lo) (h2:hi<=hi'):t.Own w lo' hi' vs d:=by
 obtain ⟨fp,h,hn,hr⟩:=h;exact ⟨fp,h,hn,fun b hb=>by have:=hr b hb;omega⟩
theorem aO {w:World} {a:Option Addr} {n cap:Nat} {E:TypeId} {zs:List Int} (h:(bH eo E).Rd w [.slice a n cap] zs):aF .i64 w a zs/\zs.length=n/\n<=cap/\cap<=9223372036854775807:=by
 obtain ⟨fp,a',cap',hv,h2,h3,h4⟩:=h;simp only [List.cons.injEq,Value.slice.injEq,and_true] at hv
 obtain ⟨rfl,rfl,rfl⟩:=hv;refine ⟨?_,rfl,h2,h3⟩
 rcases h4 with ⟨h5,_⟩|⟨b,off,fps,rfl,h6,h7,h8,h9⟩
 . exact .inl (List.eq_nil_of_length_eq_zero h5)
 refine .inr ⟨b,off,rfl,h6,fun i hi=>?_⟩
 obtain ⟨f,cs,_,⟨hcs,_⟩,hc⟩:=h9 i _ (List.getElem?_eq_getElem hi);have:=hc 0 (by show 0<1;omega);rw [hcs] at this;have e:off+(i*eo.n+0)=off+i:=by show off+(i*1+0)=off+i;omega
 rw [e] at this;rw [this,List.getD_eq_getElem?_getD,List.getElem?_eq_getElem hi];rfl
theorem pY {w:World} {a:Option Addr} {cap:Nat} {E:TypeId} {zs:List Int} (h:aF .i64 w a zs) (h1:zs.length<=cap) (h2:cap<=9223372036854775807) (hc0:a=none->cap=0):(bH eo E).Rd w [.slice a zs.length cap] zs:=by
 rcases h with rfl|⟨b,off,rfl,hlt,hc⟩
 . exact ⟨[],a,cap,rfl,h1,h2,.inl ⟨rfl,rfl,hc0⟩⟩
 by_cases h0:zs.length=0
 . exact ⟨[],_,cap,rfl,h1,h2,.inl ⟨h0,rfl,hc0⟩⟩
 refine ⟨b :: (zs.map fun _=>([]:List Nat)).flatten,_,cap,rfl,h1,h2,.inr ⟨b,off,zs.map fun _=>[],rfl,hlt,rfl,by simp,fun i x hx=>?_⟩⟩
 have hi:i<zs.length:=(List.getElem?_eq_some_iff.1 hx).1;refine ⟨[],[.int .i64 x],by rw [List.getElem?_map,hx];rfl,⟨rfl,rfl⟩,fun j hj=>?_⟩
 have hj0:j=0:=by have:j<1:=hj;omega
 subst hj0;have e:off+(i*eo.n+0)=off+i:=by show off+(i*1+0)=off+i;omega
 rw [e,hc i hi,List.getD_eq_getElem?_getD,hx];rfl
theorem aw {t:Ty} {E:TypeId} {w:World} {v:Value} {d:List t.D} (h:(bH t E).Rd w [v] d):∃a cap,v=.slice a d.length cap:=by
 obtain ⟨fp,a,cap,hv,_⟩:=h;exact ⟨a,cap,by simpa using hv⟩
theorem ae {t:Ty} {E:TypeId} {w:World} {a:Option Addr} {n cap:Nat} {d:List t.D} (h:(bH t E).Rd w [.slice a n cap] d):d.length=n/\n<=cap/\cap<=9223372036854775807:=by
 obtain ⟨fp,a',cap',hv,h2,h3,_⟩:=h;simp only [List.cons.injEq,Value.slice.injEq,and_true] at hv
 obtain ⟨rfl,rfl,rfl⟩:=hv;exact ⟨rfl,h2,h3⟩
theorem lg {t:Ty} {E:TypeId} {w:World} {n cap:Nat} {d:List t.D} (h:(bH t E).Rd w [.slice none n cap] d):n=0/\cap=0/\d=[]:=by
 obtain ⟨fp,a',cap',hv,h2,h3,h4⟩:=h;simp only [List.cons.injEq,Value.slice.injEq,and_true] at hv
 obtain ⟨rfl,rfl,rfl⟩:=hv;rcases h4 with ⟨h5,_,h6⟩|⟨b,off,fps,h5,_⟩
 . exact ⟨h5,h6 rfl,List.eq_nil_of_length_eq_zero h5⟩
 simp at h5
theorem gX {t:Ty} {E:TypeId} {w:World} {a:Option Addr} {n cap:Nat} {d:List t.D} (ht:t.n=1) (h:(bH t E).Rd w [.slice a n cap] d):
 n=0∨∃b off,a=some ⟨b,off,none⟩/\b<w.heap.size/\∀i x,d[i]?=some x->∃v,w.cell? ⟨b,off+i,none⟩=some v/\t.Rd w [v] x:=by
 obtain ⟨fp,a',cap',hv,h2,h3,h4⟩:=h;simp only [List.cons.injEq,Value.slice.injEq,and_true] at hv
 obtain ⟨rfl,rfl,rfl⟩:=hv;rcases h4 with ⟨h5,_⟩|⟨b,off,fps,h5,h6,_,_,h9⟩
 . exact .inl h5
 refine .inr ⟨b,off,h5,h6,fun i x hx=>?_⟩
 obtain ⟨f,cs,_,hrd,hc⟩:=h9 i x hx;have hl:=t.rdLen hrd;rw [ht] at hl;match cs,hl with
 | [v],_=>
  refine ⟨v,?_,f,hrd⟩
  have:=hc 0 (by omega);rw [ht,Nat.mul_one,Nat.add_zero] at this;exact this
theorem cO {t:Ty} {E:TypeId} {w:World} {a:Option Addr} {n cap:Nat} {d:List t.D} (ht:t.n=2) (h:(bH t E).Rd w [.slice a n cap] d):
 n=0∨∃b off,a=some ⟨b,off,none⟩/\b<w.heap.size/\∀i x,d[i]?=some x->∃v0 v1,w.cell? ⟨b,off+i*2,none⟩=some v0/\w.cell? ⟨b,off+i*2+1,none⟩=some v1/\t.Rd w [v0,v1] x:=by
 obtain ⟨fp,a',cap',hv,h2,h3,h4⟩:=h;simp only [List.cons.injEq,Value.slice.injEq,and_true] at hv
 obtain ⟨rfl,rfl,rfl⟩:=hv;rcases h4 with ⟨h5,_⟩|⟨b,off,fps,h5,h6,_,_,h9⟩
 . exact .inl h5
 refine .inr ⟨b,off,h5,h6,fun i x hx=>?_⟩
 obtain ⟨f,cs,_,hrd,hc⟩:=h9 i x hx;have hl:=t.rdLen hrd;rw [ht] at hl;match cs,hl with
 | [v0,v1],_=>
  refine ⟨v0,v1,?_,?_,f,hrd⟩
  . have:=hc 0 (by omega)
    rw [ht,Nat.add_zero] at this;exact this
  have:=hc 1 (by omega);rw [ht,←Nat.add_assoc] at this;exact this
theorem lh {t u:Ty} {w:World} {vs us:List Value} {d:t.D×u.D} (ht:vs.length=t.n) (h:(dO t u).Rd w (vs++us) d):t.Rd w vs d.1/\u.Rd w us d.2:=by
 obtain ⟨fp,f1,f2,_,h1,h2,_⟩:=h;rw [List.take_left' ht] at h1;rw [List.drop_left' ht] at h2;exact ⟨⟨f1,h1⟩,⟨f2,h2⟩⟩
def dw (l:List Nat):Nat:=l.foldr (·+·) 0
theorem jE {l:List Nat} {j x:Nat} (h:l[j]?=some x):dw (l.take (j+1))=dw (l.take j)+x:=by
 induction l generalizing j with
 | nil=>simp at h
 | cons y l ih=>
  match j,h with
  | 0,h=>simp at h;subst h;simp [dw]
  | j+1,h=>
   have:=ih (j:=j) (by simpa using h);simp only [List.take_succ_cons,dw,List.foldr_cons] at *
   omega
theorem nQ {l:List Nat} (j:Nat):dw (l.take j)<=dw l:=by
 induction l generalizing j with
 | nil=>simp [dw]
 | cons y l ih=>
  match j with
  | 0=>simp [dw]
  | j+1=>
   have:=ih j;simp only [List.take_succ_cons,dw,List.foldr_cons] at *
   omega
theorem gd:∀(l:List (List Nat)) (j:Nat) (f:List Nat),l.flatten.Nodup->f.Nodup->(∀b∈f,b∉l.flatten)->(l.set j f).flatten.Nodup/\∀b∈(l.set j f).flatten,b∈f∨b∈l.flatten:=by
 intro l;induction l with
 | nil=>intro j f _ _ _;simp
 | cons x l ih=>
  intro j f hn hf hd;rw [List.flatten_cons,List.nodup_append] at hn;obtain ⟨h1,h2,h3⟩:=hn;match j with
  | 0=>
   rw [List.set_cons_zero,List.flatten_cons,List.nodup_append];refine ⟨⟨hf,h2,fun a ha b hb hab=>?_⟩,fun b hb=>?_⟩
   . subst hab
     exact hd a ha (by rw [List.flatten_cons];exact List.mem_append_right _ hb)
   rcases List.mem_append.1 hb with hb|hb
   . exact .inl hb
   exact .inr (by rw [List.flatten_cons];exact List.mem_append_right _ hb)
  | j+1=>
   obtain ⟨i1,i2⟩:=ih j f h2 hf (fun b hb hbl=>hd b hb (by rw [List.flatten_cons];exact List.mem_append_right _ hbl));rw [List.set_cons_succ,List.flatten_cons,List.nodup_append];refine ⟨⟨h1,i1,fun a ha b hb hab=>?_⟩,fun b hb=>?_⟩
   . subst hab
     rcases i2 a hb with hb|hb
     . exact hd a hb (by rw [List.flatten_cons];exact List.mem_append_left _ ha)
     exact h3 a ha a hb rfl
   rcases List.mem_append.1 hb with hb|hb
   . exact .inr (by rw [List.flatten_cons];exact List.mem_append_left _ hb)
   rcases i2 b hb with hb|hb
   . exact .inl hb
   exact .inr (by rw [List.flatten_cons];exact List.mem_append_right _ hb)
theorem ep {l:List (List Nat)} {j:Nat} {f:List Nat} (hn:l.flatten.Nodup) (hj:l[j]?=some f):f.Nodup/\(∀b∈f,b∈l.flatten)/\∀i g,l[i]?=some g->i≠j->∀b∈g,b∉f:=by
 have hmem:f∈l:=List.mem_of_getElem? hj;refine ⟨?_,fun b hb=>List.mem_flatten.2 ⟨f,hmem,hb⟩,?_⟩
 . exact hn.sublist (List.sublist_flatten_of_mem hmem)
 induction l generalizing j with
 | nil=>simp at hj
 | cons x l ih=>
  rw [List.flatten_cons,List.nodup_append] at hn;obtain ⟨_,h2,h3⟩:=hn;intro i g hi hij b hb hbf;match i,j,hi,hj,hij with
  | 0,0,_,_,hij=>exact hij rfl
  | 0,j+1,hi,hj,_=>
   simp at hi
   subst hi;exact h3 b hb b (List.mem_flatten.2 ⟨f,List.mem_of_getElem? (by simpa using hj),hbf⟩) rfl
  | i+1,0,hi,hj,_=>
   simp at hj
   subst hj;exact h3 b hbf b (List.mem_flatten.2 ⟨g,List.mem_of_getElem? (by simpa using hi),hb⟩) rfl
  | i+1,j+1,hi,hj,hij=>
   exact ih (j:=j) h2 (by simpa using hj) (List.mem_of_getElem? (by simpa using hj)) i g (by simpa using hi) (by omega) b hb hbf
theorem Ty.Own.rowShape {t:Ty} {E:TypeId} {w:World} {lo hi n cap:Nat} {a:Option Addr} {d:List t.D} (h:(bH t E).Own w lo hi [.slice a n cap] d):n=0∨∃g,a=some ⟨g,0,none⟩:=by
 obtain ⟨fp,h,_,_⟩:=h;rcases h with ⟨h1,_⟩|⟨b,cap',cur,fps,h1,_⟩
 . simp at h1
   exact .inl h1.2.1
 simp at h1
 exact .inr ⟨b,h1.1⟩
theorem Tryz.info3:(Tryz.prog.info? 3).map (fun i=>(i.zero,i.size,i.bytes))=some (some (.int .i64 0),1,8):=by kernel_rfl
theorem ua {zs:List Int} (h:∀n∈zs,0<=n/\n<=255) (j:Nat):0<=zs.getD j 0/\zs.getD j 0<=255:=by
 by_cases hj:j<zs.length
 . have:=h zs[j] (List.getElem_mem hj)
   simpa [List.getElem?_eq_getElem hj] using this
 rw [List.getD_eq_getElem?_getD,List.getElem?_eq_none (by omega)];simp
end Go.Proofs.YtejokiafgbjdaaaGreat
