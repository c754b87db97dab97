/-
 What the row's reading says of an array that came in, in these texts' own words: its numbers and flags, and what its two slices read. No condition.
-/
import Derived.Test.YtfimpohbpccjaaaGreatRowGetBlockSq10
import Derived.Test.YtfimpohbpccjaaaGreatRowGetBlockSq7
import Derived.Test.YtfimpohbpccjaaaGreatRowGetBlockSq5
import Derived.Test.YtfimpohbpccjaaaGreatRowGetBlockSq8

set_option maxRecDepth 100000
set_option maxHeartbeats 8000000
set_option linter.unusedSimpArgs false

namespace Go.Proofs.YtfimpohbpccjaaaGreat
open Go.RowKit

def arrC (x:aw) (vm vd:Value):Array Value:=#[.int .i64 x.id,.int .i64 x.n,.int .i64 x.s,vm,.int .i64 x.lost,.int .i64 x.jh,.int .i64 x.seq,.int .i64 x.tail,.int .i64 x.gen,vd,.int .i64 x.jj,.bool x.down,.bool x.ji]
def cV (w:World) (B:Nat) (x:aw) (ms:List ax) (ds:List (Int×List Int)) (fm fd:List Nat):Prop:=
 ∃(bm bd:Option Addr) (cm cd:Nat),Box w B 35 (arrC x (.slice bm ms.length cm) (.slice bd ds.length cd))/\(bf 98 66).Mine w [.slice bm ms.length cm] ms fm/\(aV 63).Mine w [.slice bd ds.length cd] ds fd/\(∀b∈fm,b∉fd)/\B∉fm/\B∉fd
def bX (B:Nat) (fm:List Nat) (w:World) (fm':List Nat) (w':World):Prop:=aJ (B :: fm) w w'/\∀b∈fm',b∈fm∨w.heap.size<=b
theorem bX.refl (B:Nat) (fm:List Nat) (w:World):bX B fm w fm w:=⟨aJ.refl _ _,fun _ h=>.inl h⟩
theorem bX.trans {B:Nat} {f1 f2 f3:List Nat} {w1 w2 w3:World} (h:bX B f1 w1 f2 w2) (k:bX B f2 w2 f3 w3):bX B f1 w1 f3 w3:=by
 have hs:=h.1.size;refine ⟨⟨k.1.os.trans h.1.os,k.1.tape.trans h.1.tape,k.1.output.trans h.1.output,Nat.le_trans h.1.size k.1.size,fun b hb hn=>?_⟩,fun b hb=>?_⟩
 . rw [k.1.block b (by omega) (fun hm=>?_),h.1.block b hb hn]
   rcases List.mem_cons.1 hm with e|hm
   . exact hn (by rw [e];exact List.mem_cons_self)
   rcases h.2 b hm with h1|h1
   . exact hn (List.mem_cons_of_mem _ h1)
   omega
 rcases k.2 b hb with h1|h1
 . exact h.2 b h1
 exact .inr (by omega)
theorem bX.below {B:Nat} {f1 f2:List Nat} {w1 w2 w3:World} (h:bX B f1 w1 f2 w2) (k:Below w2.heap.size w2 w3):bX B f1 w1 f2 w3:=
 h.trans ⟨⟨k.os,k.tape,k.output,k.size,fun b hb _=>k.block b hb⟩,fun _ hb=>.inl hb⟩
theorem bX.drew {B:Nat} {f1 f2:List Nat} {w1 w2:World} (h:bX B f1 w1 f2 w2):bX B f1 w1 f2 w2.drew:=h.below ((Below.refl _ _).drew)
theorem bX.size {B:Nat} {f1 f2:List Nat} {w1 w2:World} (h:bX B f1 w1 f2 w2):w1.heap.size<=w2.heap.size:=h.1.size
theorem bX.box {B C:Nat} {f1 f2:List Nat} {w1 w2:World} {T:TypeId} {cs:Array Value} (h:bX B f1 w1 f2 w2) (x:Box w1 C T cs) (hne:C≠B) (hf:C∉f1):Box w2 C T cs:=x.kept (h.1.block C x.lt (by simp [hne,hf]))
theorem bX.set {B j:Nat} {fm:List Nat} {w:World} (v:Value):bX B fm w fm (w.setCell ⟨B,j,none⟩ v):=⟨aJ.setCell v List.mem_cons_self,fun _ h=>.inl h⟩
theorem cV.lt {w:World} {B:Nat} {x:aw} {ms:List ax} {ds:List (Int×List Int)} {fm fd:List Nat} (h:cV w B x ms ds fm fd):B<w.heap.size:=by
 obtain ⟨_,_,_,_,hx,_⟩:=h;exact hx.lt
theorem cV.below {w w':World} {B:Nat} {x:aw} {ms:List ax} {ds:List (Int×List Int)} {fm fd:List Nat} (h:cV w B x ms ds fm fd) (hb:Below w.heap.size w w'):cV w' B x ms ds fm fd:=by
 obtain ⟨bm,bd,cm,cd,hx,hm,hd,r⟩:=h;exact ⟨bm,bd,cm,cd,hx.below hb hx.lt,hm.below hb,hd.below hb,r⟩
theorem cV.drew {w:World} {B:Nat} {x:aw} {ms:List ax} {ds:List (Int×List Int)} {fm fd:List Nat} (h:cV w B x ms ds fm fd):cV w.drew B x ms ds fm fd:=h.below ((Below.refl _ _).drew)
theorem cV.alloc {w:World} {B:Nat} {x:aw} {ms:List ax} {ds:List (Int×List Int)} {fm fd:List Nat} (h:cV w B x ms ds fm fd) (o:Obj):cV (w.alloc o) B x ms ds fm fd:=h.below (af w o)
theorem cV.kept {w w':World} {B:Nat} {fq:List Nat} {x:aw} {ms:List ax} {ds:List (Int×List Int)} {fm fd:List Nat} (h:cV w B x ms ds fm fd) (ht:aJ fq w w') (h0:B∉fq) (h1:∀b∈fm,b∉fq) (h2:∀b∈fd,b∉fq):cV w' B x ms ds fm fd:=by
 obtain ⟨bm,bd,cm,cd,hx,hm,hd,r⟩:=h;exact ⟨bm,bd,cm,cd,hx.kept (ht.block B hx.lt h0),hm.kept ht h1,hd.kept ht h2,r⟩
end Go.Proofs.YtfimpohbpccjaaaGreat

namespace Go.Proofs.YtfimpohbpccjaaaGreat
open Go.RowKit Go.ChangeShapes Go.WideShapes Go.ChangeAt Go.Joins Go.Deep
section
variable {H:Type} {enc:TypeId×Value->H} {w:World} {held:Bool}
theorem iU {P:Program} {t e E:TypeId} {u:Ty} {fuel:Nat} {v:Value} {x:DataW H×List MemPlace} (ht:P.underlying t=some (.slice e)) (ce:P.cellsOf e=u.n) (hn:0<u.n)
 (each:∀(n:Nat) (cs:List Value) (y:DataW H×List MemPlace),cs.length=u.n->DataW.trod enc P w 0 (fun _=>true) held n e cs=some y->∃d,u.Rd w cs d)
 (h:DataW.trod enc P w 0 (fun _=>true) held fuel t [v]=some x):∃d,(bF u E).Rd w [v] d:=by
 rcases open_slice ht h with ⟨hcs,_⟩|⟨a,len,cap,m,n,D,Pl,hcs,_,hl,hm,hmm,_,hx⟩
 . simp at hcs
   subst hcs;exact ⟨[],[],none,0,rfl,by simp,by simp,.inl ⟨rfl,rfl,fun _=>rfl⟩⟩
 simp at hcs
 subst hcs;simp only [if_true] at hmm
 have one:∀i,i<len->∃cs:List Value,cs.length=u.n/\(∀j,j<u.n->w.cell? (a.add (i*u.n+j))=cs[j]?)/\∃d,u.Rd w cs d:=by
  intro i hi;obtain ⟨cs',h1,h2⟩:=hx i (by omega);rw [ce] at h1;obtain ⟨_,hlen,hcell⟩:=World.cells?_some h1;refine ⟨cs',hlen,fun j hj=>?_,each n cs' _ hlen h2⟩
  have:=hcell j hj;rw [add_add] at this;exact this
 obtain ⟨q,hq⟩:=choose_lt one;exact gQ hl (by unfold maxLen at hm;omega) q hn (fun i hi=>(hq i hi).1) (fun i hi=>(hq i hi).2.1) (fun i hi=>(hq i hi).2.2)
theorem iA {fuel:Nat} {v:Value} {x:DataW H×List MemPlace} (h:DataW.trod enc Tryz.prog w 0 (fun _=>true) held fuel 24 [v]=some x):∃d,(bf 94 56).Rd w [v] d:=by
 refine iU (e:=56) Tryz.underlying24 (by kernel_rfl) (by decide) (fun n cs y hl hy=>?_) h
 match cs,hl with
 | [v0,v1,v2,v3],_=>
  obtain ⟨xs,k,_,_,_,hxl,hf⟩:=DataW.trod_struct Tryz.underlying56 hy;have c1:Tryz.prog.cellsOf 53=1:=by kernel_rfl
  have c2:Tryz.prog.cellsOf 54=1:=by kernel_rfl
  have c3:Tryz.prog.cellsOf 4=1:=by kernel_rfl
  have c4:Tryz.prog.cellsOf 42=1:=by kernel_rfl
  match xs,hxl with
  | [y0,y1,y2,y3],_=>
   have g0:=hf 0 _ rfl;have g1:=hf 1 _ rfl;have g2:=hf 2 _ rfl;have g3:=hf 3 _ rfl;simp [c1] at g0
   simp [c2] at g1
   simp [c3] at g2
   simp [c4] at g3
   obtain ⟨ss,r0⟩:=gR Tryz.underlying53 Tryz.underlying42 Tryz.underlying3 (by kernel_rfl) (by kernel_rfl) g0;obtain ⟨ws,r1⟩:=ge (E:=94) Tryz.underlying54 Tryz.underlying94 (by kernel_rfl) rfl rfl (by kernel_rfl) (by kernel_rfl) Tryz.underlying3 Tryz.underlying42 Tryz.underlying3 (by kernel_rfl) g1;obtain ⟨f,hfb,_⟩:=DataW.trod_bool Tryz.underlying4 g2;obtain ⟨bs,r3⟩:=ec Tryz.underlying42 Tryz.underlying3 (by kernel_rfl) g3;simp at hfb
   subst hfb;exact ⟨(ss,ws,f,bs),dg (vs:=[v0]) r0 (dg (vs:=[v1]) r1 (dg (t:=ev) (vs:=[.bool f]) ⟨[],rfl,rfl⟩ r3))⟩
theorem jf {cs:Array Value} (h:cs.size=13):∃c0 c1 c2 c3 c4 c5 c6 c7 c8 c9 c10 c11 c12,cs=#[c0,c1,c2,c3,c4,c5,c6,c7,c8,c9,c10,c11,c12]:=by
 obtain ⟨l⟩:=cs;match l,h with
 | [c0,c1,c2,c3,c4,c5,c6,c7,c8,c9,c10,c11,c12],_=>exact ⟨c0,c1,c2,c3,c4,c5,c6,c7,c8,c9,c10,c11,c12,rfl⟩
theorem iV {r:Reach} {b0:Nat} {v:Value} {d:DataW H} {p:List MemPlace} (hv:Value.okWide Tryz.prog w r b0 27 v) (h:DataW.Trod enc Tryz.prog w 0 (fun _=>true) held 27 v d p):
 ∃(x:aw) (am ad:Option Addr) (cm cd:Nat) (ms:List ax) (ds:List (Int×List Int)),v=.agg #[.int .i64 x.id,.int .i64 x.n,.int .i64 x.s,.slice am ms.length cm,.int .i64 x.lost,.int .i64 x.jh,.int .i64 x.seq,.int .i64 x.tail,.int .i64 x.gen,.slice ad ds.length cd,.int .i64 x.jj,.bool x.down,.bool x.ji]/\(bf 94 56).Rd w [.slice am ms.length cm] ms/\(aV 59).Rd w [.slice ad ds.length cd] ds:=by
 obtain ⟨cs,rfl,hsz⟩:=okWide_struct Tryz.underlying27 hv;obtain ⟨c0,c1,c2,c3,c4,c5,c6,c7,c8,c9,c10,c11,c12,rfl⟩:=jf (hsz.trans (by kernel_rfl));obtain ⟨fuel,hf⟩:=h;obtain ⟨xs,n,_,_,_,hxl,hx⟩:=DataW.trod_struct Tryz.underlying27 hf;have k3:Tryz.prog.cellsOf 3=1:=by kernel_rfl
 have k4:Tryz.prog.cellsOf 4=1:=by kernel_rfl
 have kG:Tryz.prog.cellsOf 23=2:=by kernel_rfl
 have kM:Tryz.prog.cellsOf 24=1:=by kernel_rfl
 have kE:Tryz.prog.cellsOf 25=1:=by kernel_rfl
 match xs,hxl with
 | [y0,y1,y2,y3,y4,y5,y6,y7,y8,y9,y10,y11],_=>
  have g0:=hx 0 _ rfl;have g1:=hx 1 _ rfl;have g2:=hx 2 _ rfl;have g3:=hx 3 _ rfl;have g4:=hx 4 _ rfl;have g5:=hx 5 _ rfl;have g6:=hx 6 _ rfl;have g7:=hx 7 _ rfl;have g8:=hx 8 _ rfl;have g9:=hx 9 _ rfl;have g10:=hx 10 _ rfl;have g11:=hx 11 _ rfl;simp [Value.cells,k3] at g0
  simp [Value.cells,kG] at g1
  simp [Value.cells,kM] at g2
  simp [Value.cells,k3] at g3
  simp [Value.cells,k3] at g4
  simp [Value.cells,k3] at g5
  simp [Value.cells,k3] at g6
  simp [Value.cells,k3] at g7
  simp [Value.cells,kE] at g8
  simp [Value.cells,k3] at g9
  simp [Value.cells,k4] at g10
  simp [Value.cells,k4] at g11
  obtain ⟨n0,e0,_,_⟩:=DataW.trod_int Tryz.underlying3 g0;simp at e0
  subst e0;obtain ⟨zs,m,_,_,_,hzl,hz⟩:=DataW.trod_struct Tryz.underlying23 g1;match zs,hzl with
  | [z0,z1],_=>
  have q0:=hz 0 _ rfl;have q1:=hz 1 _ rfl;simp [k3] at q0 q1
  obtain ⟨nn,en,_,_⟩:=DataW.trod_int Tryz.underlying3 q0;obtain ⟨ns,es,_,_⟩:=DataW.trod_int Tryz.underlying3 q1;simp at en es
  subst en es;obtain ⟨ms,r2⟩:=iA g2;obtain ⟨am,cm,rfl⟩:=aq r2;obtain ⟨n3,e3,_,_⟩:=DataW.trod_int Tryz.underlying3 g3;simp at e3
  subst e3;obtain ⟨n4,e4,_,_⟩:=DataW.trod_int Tryz.underlying3 g4;simp at e4
  subst e4;obtain ⟨n5,e5,_,_⟩:=DataW.trod_int Tryz.underlying3 g5;simp at e5
  subst e5;obtain ⟨n6,e6,_,_⟩:=DataW.trod_int Tryz.underlying3 g6;simp at e6
  subst e6;obtain ⟨n7,e7,_,_⟩:=DataW.trod_int Tryz.underlying3 g7;simp at e7
  subst e7;obtain ⟨ds,r8⟩:=ge (E:=59) Tryz.underlying25 Tryz.underlying59 (by kernel_rfl) rfl rfl (by kernel_rfl) (by kernel_rfl) Tryz.underlying3 Tryz.underlying42 Tryz.underlying3 (by kernel_rfl) g8;obtain ⟨ad,cd,rfl⟩:=aq r8;obtain ⟨n9,e9,_,_⟩:=DataW.trod_int Tryz.underlying3 g9;simp at e9
  subst e9;obtain ⟨n10,e10,_⟩:=DataW.trod_bool Tryz.underlying4 g10;simp at e10
  subst e10;obtain ⟨n11,e11,_⟩:=DataW.trod_bool Tryz.underlying4 g11;simp at e11
  subst e11;exact ⟨⟨n0,nn,ns,n3,n4,n5,n6,n7,n9,n10,n11⟩,am,ad,cm,cd,ms,ds,rfl,r2,r8⟩
end
end Go.Proofs.YtfimpohbpccjaaaGreat

