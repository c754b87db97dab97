/-
 The walk of the program's ArrNew: a new array in memory of its own. No condition.
-/
import Derived.Test.YtejeekndbnpmoaaGreatRowWritesBentSq16
import Derived.Test.YtejeekndbnpmoaaGreatRowWritesBentSq18
import Derived.Test.YtejeekndbnpmoaaGreatRowWritesBentSq9
import Derived.Test.YtejeekndbnpmoaaGreatRowWritesBentSq11
import Derived.Test.YtejeekndbnpmoaaGreatRowWritesBentSq7
import Derived.Test.YtejeekndbnpmoaaGreatRowWritesBentSq3
import Derived.Test.YtejeekndbnpmoaaGreatRowWritesBentSq2
import Derived.OrdersHeld
import Derived.RegionTactic

set_option maxRecDepth 100000
set_option maxHeartbeats 8000000
set_option linter.unusedSimpArgs false

namespace Go.Proofs.YtejeekndbnpmoaaGreat
open Go.RowKit

def St6 (w:World) (g:Nat) (a:Option Addr) (lb cb:Nat) (zs:List Int) (N B:Nat) (G:Int) (q:al×List ai) (ds:List aF) (fm fd:List Nat):Prop:=
 aO w g a lb cb zs/\aD w B q.1 q.2 ds fm fd/\cA G q ds/\(g<N/\N<=w.heap.size/\N<=B)/\(∀b∈fm,N<=b)/\∀b∈fd,N<=b
def At6 (w:World) (g:Nat) (a:Option Addr) (lb cb:Nat) (zs:List Int) (N B:Nat) (G:Int):Prop:=∃q ds fm fd,St6 w g a lb cb zs N B G q ds fm fd
theorem cA.more {G G':Int} {q:al×List ai} {ds:List aF} (h:cA G q ds) (hG:G<=G'):cA G' q ds:=⟨h.1,h.2.1,h.2.2.1,Int.le_trans h.2.2.2.1 hG,Int.le_trans h.2.2.2.2 hG⟩
theorem St6.more {w:World} {g:Nat} {a:Option Addr} {lb cb:Nat} {zs:List Int} {N B:Nat} {G G':Int} {q:al×List ai} {ds:List aF} {fm fd:List Nat} (h:St6 w g a lb cb zs N B G q ds fm fd) (hG:G<=G'):St6 w g a lb cb zs N B G' q ds fm fd:=⟨h.1,h.2.1,h.2.2.1.more hG,h.2.2.2⟩
theorem St6.draw {w w':World} {g:Nat} {a:Option Addr} {lb cb:Nat} {zs:List Int} {N B:Nat} {G:Int} {q:al×List ai} {ds:List aF} {fm fd:List Nat} (h:St6 w g a lb cb zs N B G q ds fm fd) (hd:aO w' g a lb cb zs) (hb:But g (g+1) w w'):St6 w' g a lb cb zs N B G q ds fm fd:=by
 obtain ⟨_,h2,h3,h4,h5,h6⟩:=h;refine ⟨hd,h2.kept (fq:=[g]) ⟨hb.os,hb.tape,hb.output,hb.size,fun k hk hf=>hb.block k hk (by simp at hf;omega)⟩ (by simp;omega) (fun b hm=>?_) (fun b hm=>?_),h3,⟨h4.1,Nat.le_trans h4.2.1 hb.size,h4.2.2⟩,h5,h6⟩
 . have:=h5 b hm;simp;omega
 have:=h6 b hm;simp;omega
theorem St6.below {w w':World} {g:Nat} {a:Option Addr} {lb cb:Nat} {zs:List Int} {N B:Nat} {G:Int} {q:al×List ai} {ds:List aF} {fm fd:List Nat} (h:St6 w g a lb cb zs N B G q ds fm fd) (hb:Below w.heap.size w w'):St6 w' g a lb cb zs N B G q ds fm fd:=
 ⟨h.1.lower hb h.1.lt,h.2.1.below hb,h.2.2.1,⟨h.2.2.2.1.1,Nat.le_trans h.2.2.2.1.2.1 hb.size,h.2.2.2.1.2.2⟩,h.2.2.2.2⟩
theorem But.fr {g N:Nat} {w w':World} (hb:But g (g+1) w w') (hN:N<=w.heap.size):Fr N g w w':=⟨hb.os,hb.tape,hb.output,hb.size,fun k hk hne=>hb.block k (by omega) (by omega)⟩
theorem St6.turned {w w':World} {g:Nat} {a:Option Addr} {lb cb:Nat} {zs:List Int} {N B:Nat} {G G':Int} {q q':al×List ai} {ds ds':List aF} {fm fd fm' fd' fq:List Nat} (h:St6 w g a lb cb zs N B G q ds fm fd) (ht:aw fq w w') (hq:∀b∈fq,N<=b) (hA:aD w' B q'.1 q'.2 ds' fm' fd') (hG:cA G' q' ds') (hm:∀b∈fm',b∈fm∨b∈fd∨w.heap.size<=b) (hd:∀b∈fd',b∈fm∨b∈fd∨w.heap.size<=b):
 At6 w' g a lb cb zs N B G'/\Fr N g w w':=by
 obtain ⟨h1,h2,h3,h4,h5,h6⟩:=h;have hgl:=h1.lt;have hb:Below (g+1) w w':=⟨ht.os,ht.tape,ht.output,ht.size,fun k hk=>ht.block k (by omega) (fun hm=>by have:=hq k hm;omega)⟩;have hin:∀b,b∈fm∨b∈fd∨w.heap.size<=b->N<=b:=fun b hb=>by
  rcases hb with h|h|h
  . exact h5 b h
  . exact h6 b h
  omega
 exact ⟨⟨q',ds',fm',fd',h1.lower hb (by omega),hA,hG,⟨h4.1,Nat.le_trans h4.2.1 ht.size,h4.2.2⟩,fun b hb=>hin b (hm b hb),fun b hb=>hin b (hd b hb)⟩,Fr.ofTurned ht h4.2.1 hq⟩
theorem jY {G:Int} {q:al×List ai} {ds:List aF} (h:cA G q ds):aM q.2 ds<=20000/\ds.length<=101:=by
 obtain ⟨p1,p2,p3,p4,p5,p6⟩:=bf.1 h.1;have g1:=aB.1 p1;have hl:=vi (sj h.1);have h1:=jP (mI p3) (by have:=(dH.1 p3).2;omega);have h2:=dF (ds.map fun x=>x.2.length) 4 (fun y hy=>by
  obtain ⟨d,hd,rfl⟩:=List.mem_map.1 hy;obtain ⟨i,hi⟩:=List.mem_iff_getElem?.1 hd;have:=((jX.1 p4).1 i d hi).2.1;omega)
 rw [List.length_map] at h2;have h3:bh ds<=101+404:=by
  unfold bh;exact Nat.add_le_add hl (Nat.le_trans h2 (by omega))
 refine ⟨?_,hl⟩
 unfold aM;omega
theorem rK {G:Int} {q:al×List ai} {ds:List aF} (h:cA G q ds) {m:Nat} {ss:List (List Int)} {cs:List (Int×List Int)} {f:Bool} {bs:List Int} (hd:q.2[m]?=some (ss,cs,f,bs)) (n:Int):cA G (q.1,q.2.set m (ss,cs,f,iQ ss cs bs n)) ds:=by
 obtain ⟨ha,hi,hb,h1,h2⟩:=h;obtain ⟨p1,p2,p3,p4,p5,p6⟩:=bf.1 ha;have h3:=dH.1 p3;refine ⟨bf.2 ⟨p1,p2,mH p3 rfl rfl ?_ (h3.1 m _ hd).2.1 (fun hf=>(h3.1 m _ hd).2.2 hf) (fun i e _ he hf=>(h3.1 i e he).2.2 hf),p4,p5,p6⟩,hi,hb,h1,h2⟩
 show bp ss cs (iQ ss cs bs n)=true
 unfold iQ;split
 . rename_i hs
   exact lQ hs
 exact (h3.1 m _ hd).1
theorem oF {N B:Nat} {fm fd:List Nat} (h1:N<=B) (h2:∀b∈fm,N<=b) (h3:∀b∈fd,N<=b):∀b∈B :: (fm++fd),N<=b:=fun b hb=>by
 simp only [List.mem_cons,List.mem_append] at hb
 rcases hb with h|h|h
 . omega
 . exact h2 b h
 exact h3 b h
theorem set6 {w:World} {g:Nat} {a:Option Addr} {lb cb:Nat} {zs:List Int} {N B:Nat} {G:Int} {q:al×List ai} {ds:List aF} {fm fd:List Nat} (h:St6 w g a lb cb zs N B G q ds fm fd) {b n:Int} (hb:cl q.1.n q.1.s b=true) (hn:isW n=true):
 Calls Tryz.prog 118 #[.pointer (some ⟨B,0,none⟩),.int .i64 b,.int .i64 n] w fun e w'=>∃v,e=.returned (.int .i64 v)/\At6 w' g a lb cb zs N B G/\Fr N g w w':=by
 have hw:=jY h.2.2.1;refine (te w B q.1 q.2 ds fm fd h.2.1 h.2.2.1.1 (by omega) (by omega) b n hb).mono ?_
 rintro e w' ⟨rfl,fd',hA,hT,hN⟩;refine ⟨_,rfl,h.turned hT (fun b hb=>?_) (q':=q) hA (uF h.2.2.1 hb hn) (fun b hb=>.inl hb) (fun b hb=>(hN b hb).elim (fun h=>.inr (.inl h)) (fun h=>.inr (.inr h)))⟩
 rcases List.mem_cons.1 hb with e|hb
 . have:=h.2.2.2.1.2.2;omega
 exact h.2.2.2.2.2 b hb
theorem rN {w:World} {g:Nat} {a:Option Addr} {lb cb:Nat} {zs:List Int} {N B:Nat} {G:Int} {q:al×List ai} {ds:List aF} {fm fd:List Nat} (h:St6 w g a lb cb zs N B G q ds fm fd) (t:Int):
 Calls Tryz.prog 123 #[.pointer (some ⟨B,0,none⟩),.int .i64 t] w fun e w'=>∃v,e=.returned (.int .i64 v)/\At6 w' g a lb cb zs N B (G+1)/\Fr N g w w':=by
 have hw:=jY h.2.2.1;refine (kY w B q.1 q.2 ds fm fd h.2.1 (by omega) t).mono ?_
 rintro e w' ⟨rfl,fm',fd',hA,hT,hN⟩;exact ⟨_,rfl,h.turned hT (oF h.2.2.2.1.2.2 h.2.2.2.2.1 h.2.2.2.2.2) hA (mJ h.2.2.1 t) (fun b hb=>hN b (.inl hb)) (fun b hb=>hN b (.inr hb))⟩
theorem all6 {w:World} {g:Nat} {a:Option Addr} {lb cb:Nat} {zs:List Int} {N B:Nat} {G:Int} {q:al×List ai} {ds:List aF} {fm fd:List Nat} (h:St6 w g a lb cb zs N B G q ds fm fd):
 Calls Tryz.prog 125 #[.pointer (some ⟨B,0,none⟩)] w fun e w'=>∃v,e=.returned (.int .i64 v)/\At6 w' g a lb cb zs N B (G+101)/\Fr N g w w':=by
 have hw:=jY h.2.2.1;refine (tp w B q.1 q.2 ds fm fd h.2.1 (by omega)).mono ?_
 rintro e w' ⟨rfl,fm',fd',hA,hT,hN⟩;have hG:cA (G+101) (fK (q.1,q.2) ds).1 (fK (q.1,q.2) ds).2.1:=(ou ds h.2.2.1).more (by omega);exact ⟨_,rfl,h.turned hT (oF h.2.2.2.1.2.2 h.2.2.2.2.1 h.2.2.2.2.2) hA hG (fun b hb=>hN b (.inl hb)) (fun b hb=>hN b (.inr hb))⟩
theorem mR {w w':World} {g:Nat} {a:Option Addr} {lb cb:Nat} {zs:List Int} {N B:Nat} {G G':Int} {q q':al×List ai} {ds:List aF} {fm fd fm':List Nat} (h:St6 w g a lb cb zs N B G q ds fm fd) (hA:aD w' B q'.1 q'.2 ds fm' fd) (hM:aJ B fm w fm' w') (hG:cA G' q' ds):At6 w' g a lb cb zs N B G'/\Fr N g w w':=
 h.turned hM.1 (fun b hb=>by
  rcases List.mem_cons.1 hb with e|hb
  . have:=h.2.2.2.1.2.2;omega
  exact h.2.2.2.2.1 b hb) hA hG (fun b hb=>(hM.2 b hb).elim .inl (fun h=>.inr (.inr h))) (fun b hb=>.inr (.inl hb))
theorem fu {G:Int} {q:al×List ai} {ds:List aF} (h:cA G q ds):q.1.vI<=1000/\bM q.2/\0<=q.1.gen/\q.1.gen<=60000/\bF q.1.n q.1.s=true/\(q.2.length:Int)=q.1.n/\q.1.lost<=q.1.n-1/\0<=q.1.vG/\q.1.vG<=q.1.s:=by
 obtain ⟨p1,p2,p3,p4,p5,p6⟩:=bf.1 h.1;have h6:=fL.1 p6;unfold dq at p5;simp only [Bool.and_eq_true,aI] at p5
 exact ⟨by omega,mI p3,by omega,by omega,p1,(dH.1 p3).2,by omega,by omega,by omega⟩
theorem pk {G:Int} {q:al×List ai} {ds:List aF} (h:cA G q ds):-1<=q.1.lost:=by
 obtain ⟨p1,p2,p3,p4,p5,p6⟩:=bf.1 h.1;unfold dq at p5;simp only [Bool.and_eq_true,aI] at p5
 omega
theorem check6 {w:World} {g:Nat} {a:Option Addr} {lb cb:Nat} {zs:List Int} {N B:Nat} {G:Int} {q:al×List ai} {ds:List aF} {fm fd:List Nat} (h:St6 w g a lb cb zs N B G q ds fm fd) (hG:G<59000):
 Calls Tryz.prog 105 #[.pointer (some ⟨B,0,none⟩)] w fun e w'=>e=.returned (.tuple #[])/\At6 w' g a lb cb zs N B (G+1)/\Fr N g w w':=by
 obtain ⟨n1,n2,n3,n4,n5,n6,n7,n8,n9⟩:=fu h.2.2.1;refine (gF w B q.1 q.2 ds fm fd h.2.1 n1 n2 n3 n4).mono ?_
 rintro e w' ⟨rfl,fm',hA,hM⟩;exact ⟨rfl,mR h hA hM (rj h.2.2.1 hG)⟩
theorem fail6 {w:World} {g:Nat} {a:Option Addr} {lb cb:Nat} {zs:List Int} {N B:Nat} {G:Int} {q:al×List ai} {ds:List aF} {fm fd:List Nat} (h:St6 w g a lb cb zs N B G q ds fm fd) (hG:G<59000) (hl:q.1.lost=-1) {m:Int} (h0:0<=m) (h1:m<q.1.n):
 Calls Tryz.prog 132 #[.pointer (some ⟨B,0,none⟩),.int .i64 m] w fun e w'=>e=.returned (.tuple #[])/\At6 w' g a lb cb zs N B (G+1)/\Fr N g w w':=by
 obtain ⟨n1,n2,n3,n4,n5,n6,n7,n8,n9⟩:=fu h.2.2.1;obtain ⟨k,rfl⟩:=Int.eq_ofNat_of_zero_le h0;refine (qk w B q.1 q.2 ds fm fd h.2.1 n1 n2 n3 n4 k (by omega)).mono ?_
 rintro e w' ⟨rfl,fm',hA,hM⟩;exact ⟨rfl,mR h hA hM (ti h.2.2.1 hG hl h1)⟩
theorem spare6 {w:World} {g:Nat} {a:Option Addr} {lb cb:Nat} {zs:List Int} {N B:Nat} {G:Int} {q:al×List ai} {ds:List aF} {fm fd:List Nat} (h:St6 w g a lb cb zs N B G q ds fm fd) (hG:G<59000) (hl:0<=q.1.lost):
 Calls Tryz.prog 140 #[.pointer (some ⟨B,0,none⟩)] w fun e w'=>∃v,e=.returned (.int .i64 v)/\At6 w' g a lb cb zs N B (G+1)/\Fr N g w w':=by
 obtain ⟨n1,n2,n3,n4,n5,n6,n7,n8,n9⟩:=fu h.2.2.1;refine (pi w B q.1 q.2 ds fm fd h.2.1 n1 n2 n3 n4 n5 q.1.lost.toNat (by omega) (by omega)).mono ?_
 rintro e w' ⟨rfl,fm',hA,hM⟩;exact ⟨_,rfl,mR h hA hM (rF h.2.2.1 hG hl)⟩
theorem step6 {w:World} {g:Nat} {a:Option Addr} {lb cb:Nat} {zs:List Int} {N B:Nat} {G:Int} {q:al×List ai} {ds:List aF} {fm fd:List Nat} (h:St6 w g a lb cb zs N B G q ds fm fd) (hl:0<=q.1.lost) (hb:q.1.vG<q.1.s):
 Calls Tryz.prog 142 #[.pointer (some ⟨B,0,none⟩)] w fun e w'=>∃v,e=.returned (.int .i64 v)/\At6 w' g a lb cb zs N B G/\Fr N g w w':=by
 obtain ⟨n1,n2,n3,n4,n5,n6,n7,n8,n9⟩:=fu h.2.2.1;have hw:=(jY h.2.2.1).1;have hs:=(aB.1 n5).2.2.2;refine (qm w B q.1 q.2 ds fm fd h.2.1 n1 n2 n5 (by unfold aM at hw;omega) q.1.lost.toNat (by omega) (by omega) (by omega) (by omega)).mono ?_
 rintro e w' ⟨rfl,fm',hA,hM⟩;exact ⟨_,rfl,mR h hA hM (tj h.2.2.1 hl hb)⟩
theorem Own.under {k:IntKind} {E:TypeId} {w w':World} {lo hi N:Nat} {v:Value} {zs:List Int} (h:Own k E w lo hi v zs) (hb:Below N w w') (hN:hi<=N):Own k E w' lo hi v zs:=by
 refine ⟨⟨h.1.1,?_⟩,h.2⟩
 rcases h.1.2 with h2|⟨g,cap,cur,hv,hbg,hg,r⟩
 . exact .inl h2
 have hhi:g<hi:=h.2 g (by rw [hv];rfl);exact .inr ⟨g,cap,cur,hv,hbg,by rw [hb.block g (by omega)];exact hg,r⟩
theorem mS {w:World} {g lb cb:Nat} {a:Option Addr} {zs:List Int} (h:aO w g a lb cb zs) (n:Int) (hn:0<=n) (hn':n<=256):
 Calls Tryz.prog 86 #[.pointer (some ⟨g,0,none⟩),.int .i64 n] w fun e w'=>∃b:Bool,e=.returned (.bool b)/\aO w' g a lb cb zs/\But g (g+1) w w':=by
 go_enter Tryz.func86,Tryz.ntmps86
 go_wp2_with fail
 refine (bJ h n hn hn').mono ?_
 rintro e w1 ⟨x,rfl,_,_,D1,b1⟩;go_wp2
 go_ret
 exact ⟨_,rfl,D1,b1⟩
theorem At6.more {w:World} {g:Nat} {a:Option Addr} {lb cb:Nat} {zs:List Int} {N B:Nat} {G G':Int} (h:At6 w g a lb cb zs N B G) (hG:G<=G'):At6 w g a lb cb zs N B G':=by
 obtain ⟨q,ds,fm,fd,h⟩:=h;exact ⟨q,ds,fm,fd,h.more hG⟩
theorem St6.cells {w:World} {g:Nat} {a:Option Addr} {lb cb:Nat} {zs:List Int} {N B:Nat} {G:Int} {q:al×List ai} {ds:List aF} {fm fd:List Nat} (h:St6 w g a lb cb zs N B G q ds fm fd):w.cell? ⟨B,1,none⟩=some (.int .i64 q.1.n)/\w.cell? ⟨B,2,none⟩=some (.int .i64 q.1.s)/\w.cell? ⟨B,4,none⟩=some (.int .i64 q.1.lost)/\w.cell? ⟨B,5,none⟩=some (.int .i64 q.1.vG):=by
 obtain ⟨_,⟨bm,bd,cm,cd,X,_⟩,_⟩:=h;unfold aC at X;obtain ⟨k0,k1,k2,k3,k4,k5,_⟩:=X.cells13;exact ⟨k1,k2,k4,k5⟩
theorem St6.flag {w:World} {g:Nat} {a:Option Addr} {lb cb:Nat} {zs:List Int} {N B:Nat} {G:Int} {q:al×List ai} {ds:List aF} {fm fd:List Nat} (h:St6 w g a lb cb zs N B G q ds fm fd) (hl:0<=q.1.lost):∃(k b cm:Nat) (f:Bool),q.1.lost=(k:Int)/\k<q.2.length/\w.cell? ⟨B,3,none⟩=some (.slice (some ⟨b,0,none⟩) q.2.length cm)/\w.cell? ⟨b,k*4+2,none⟩=some (.bool f):=by
 obtain ⟨n1,n2,n3,n4,n5,n6,n7,n8,n9⟩:=fu h.2.2.1;obtain ⟨_,⟨bm,bd,cm,cd,X,hm,_⟩,_⟩:=h;obtain ⟨k,hk⟩:=Int.eq_ofNat_of_zero_le hl;have hkl:k<q.2.length:=by omega
 obtain ⟨b,rfl⟩:=bU hm (by omega);obtain ⟨_,_,_,_,_,_,_,_,_,f,_,_,_,_,hf,_⟩:=dM hm (List.getElem?_eq_getElem hkl);unfold aC at X;exact ⟨k,b,cm,f,hk,hkl,X.cells13.2.2.2.1,hf⟩
theorem rO (w:World) (g:Nat) (a:Option Addr) (lb cb:Nat) (zs:List Int) (N B:Nat) (G:Int) (h:At6 w g a lb cb zs N B G) (hG:G<58000):
 Calls Tryz.prog 151 #[.pointer (some ⟨g,0,none⟩),.pointer (some ⟨B,0,none⟩)] w fun e w'=>e=.returned (.tuple #[])/\At6 w' g a lb cb zs N B (G+101)/\Fr N g w w':=by
 obtain ⟨q,ds,fm,fd,h⟩:=h;have S0:=aa h;have hgl:=h.1.lt;have hNl:=h.2.2.2.1.2.1;clear h;go_enter Tryz.func151,Tryz.ntmps151
 go_wp2_with fail
 refine (bJ S0.out.1 14 (by omega) (by omega)).mono ?_
 rintro e w1 ⟨v,rfl,v0,v1,d1,b1⟩;have S1:=aa (S0.out.draw d1 b1);have B1:=aa (b1.fr hNl);have z1:=b1.size;clear d1 b1 S0;rcases (by omega:v=0∨v=1∨v=2∨v=3∨v=4∨v=5∨v=6∨v=7∨v=8∨v=9∨v=10∨v=11∨v=12∨v=13) with rfl|rfl|rfl|rfl|rfl|rfl|rfl|rfl|rfl|rfl|rfl|rfl|rfl|rfl
 . skip
   obtain ⟨n1,n2,n3,n4,n5,n6,n7,n8,n9⟩:=fu S1.out.2.2.1;obtain ⟨g1,g2,g3,g4⟩:=aB.1 n5;have hbn:1<=aX q.1.n q.1.s/\aX q.1.n q.1.s<=256:=by
    unfold aX;rw [if_pos n5];have h1:1*2<=q.1.s*(q.1.n-1):=Int.mul_le_mul g3 (by omega) (by omega) (by omega);have h2:q.1.s*(q.1.n-1)<=8*4:=Int.mul_le_mul g4 (by omega) (by omega) (by omega);omega
   have HBB:Hid (∀b:Int,0<=b->(b<aX q.1.n q.1.s∨b=0)->cl q.1.n q.1.s b=true):=fun b h0 h1=>aI.2 ⟨h0,by omega⟩;obtain ⟨c1,c2,c4,c5⟩:=S1.out.cells;clear n1 n2 n3 n4 n5 n6 n7 n8 n9 g1 g2 g3 g4;go_wp2_with fail
   refine (de _ q.1.n q.1.s).mono ?_
   rintro e w2 ⟨rfl,b2⟩;have S2:=aa (S1.out.below b2);have B2:=aa (B1.out.trans (Fr.ofBelow b2 (by omega)));have z2:=b2.size;clear c1 c2 c4 c5 b2 S1 B1;generalize aX q.1.n q.1.s=bn at hbn HBB ⊢;go_wp2_with fail
   refine (bJ S2.out.1 bn (by omega) (by omega)).mono ?_
   rintro e w3 ⟨b,rfl,b0,b1,d3,b3⟩;have S3:=aa (S2.out.draw d3 b3);have B3:=aa (B2.out.trans (b3.fr (by omega)));have z3:=b3.size;have hb:=HBB.out b b0 b1;clear d3 b3 S2 B2 b0 b1 HBB hbn;go_wp2_with fail
   refine (eT S3.out.1).mono ?_
   rintro e w4 ⟨n,rfl,hn,d4,b4⟩;have S4:=aa (S3.out.draw d4 b4);have B4:=aa (B3.out.trans (b4.fr (by omega)));clear d4 b4 S3 B3;have HC:=aa (set6 S4.out hb hn);clear hb hn S4;go_wp2_with fail
   refine HC.out.mono ?_
   rintro e w5 ⟨v,rfl,hA,hB⟩;have HA:=aa ((hA).more (show G<=G+101 by omega));have HB:=aa (B4.out.trans hB);clear hA hB HC;go_wp2
   refine bodyPost_end (v:=.tuple #[]) (results_none rfl _ _ _) rfl ?_
   exact ⟨rfl,HA.out,HB.out⟩
 . skip
   obtain ⟨n1,n2,n3,n4,n5,n6,n7,n8,n9⟩:=fu S1.out.2.2.1;obtain ⟨g1,g2,g3,g4⟩:=aB.1 n5;have hbn:1<=aX q.1.n q.1.s/\aX q.1.n q.1.s<=256:=by
    unfold aX;rw [if_pos n5];have h1:1*2<=q.1.s*(q.1.n-1):=Int.mul_le_mul g3 (by omega) (by omega) (by omega);have h2:q.1.s*(q.1.n-1)<=8*4:=Int.mul_le_mul g4 (by omega) (by omega) (by omega);omega
   have HBB:Hid (∀b:Int,0<=b->(b<aX q.1.n q.1.s∨b=0)->cl q.1.n q.1.s b=true):=fun b h0 h1=>aI.2 ⟨h0,by omega⟩;obtain ⟨c1,c2,c4,c5⟩:=S1.out.cells;clear n1 n2 n3 n4 n5 n6 n7 n8 n9 g1 g2 g3 g4;go_wp2_with fail
   refine (de _ q.1.n q.1.s).mono ?_
   rintro e w2 ⟨rfl,b2⟩;have S2:=aa (S1.out.below b2);have B2:=aa (B1.out.trans (Fr.ofBelow b2 (by omega)));have z2:=b2.size;clear c1 c2 c4 c5 b2 S1 B1;generalize aX q.1.n q.1.s=bn at hbn HBB ⊢;go_wp2_with fail
   refine (bJ S2.out.1 bn (by omega) (by omega)).mono ?_
   rintro e w3 ⟨b,rfl,b0,b1,d3,b3⟩;have S3:=aa (S2.out.draw d3 b3);have B3:=aa (B2.out.trans (b3.fr (by omega)));have z3:=b3.size;have hb:=HBB.out b b0 b1;clear d3 b3 S2 B2 b0 b1 HBB hbn;go_wp2_with fail
   refine (eT S3.out.1).mono ?_
   rintro e w4 ⟨n,rfl,hn,d4,b4⟩;have S4:=aa (S3.out.draw d4 b4);have B4:=aa (B3.out.trans (b4.fr (by omega)));clear d4 b4 S3 B3;have HC:=aa (set6 S4.out hb hn);clear hb hn S4;go_wp2_with fail
   refine HC.out.mono ?_
   rintro e w5 ⟨v,rfl,hA,hB⟩;have HA:=aa ((hA).more (show G<=G+101 by omega));have HB:=aa (B4.out.trans hB);clear hA hB HC;go_wp2
   refine bodyPost_end (v:=.tuple #[]) (results_none rfl _ _ _) rfl ?_
   exact ⟨rfl,HA.out,HB.out⟩
 . skip
   obtain ⟨n1,n2,n3,n4,n5,n6,n7,n8,n9⟩:=fu S1.out.2.2.1;obtain ⟨g1,g2,g3,g4⟩:=aB.1 n5;have hbn:1<=aX q.1.n q.1.s/\aX q.1.n q.1.s<=256:=by
    unfold aX;rw [if_pos n5];have h1:1*2<=q.1.s*(q.1.n-1):=Int.mul_le_mul g3 (by omega) (by omega) (by omega);have h2:q.1.s*(q.1.n-1)<=8*4:=Int.mul_le_mul g4 (by omega) (by omega) (by omega);omega
   have HBB:Hid (∀b:Int,0<=b->(b<aX q.1.n q.1.s∨b=0)->cl q.1.n q.1.s b=true):=fun b h0 h1=>aI.2 ⟨h0,by omega⟩;obtain ⟨c1,c2,c4,c5⟩:=S1.out.cells;clear n1 n2 n3 n4 n5 n6 n7 n8 n9 g1 g2 g3 g4;go_wp2_with fail
   refine (de _ q.1.n q.1.s).mono ?_
   rintro e w2 ⟨rfl,b2⟩;have S2:=aa (S1.out.below b2);have B2:=aa (B1.out.trans (Fr.ofBelow b2 (by omega)));have z2:=b2.size;clear c1 c2 c4 c5 b2 S1 B1;generalize aX q.1.n q.1.s=bn at hbn HBB ⊢;go_wp2_with fail
   refine (bJ S2.out.1 bn (by omega) (by omega)).mono ?_
   rintro e w3 ⟨b,rfl,b0,b1,d3,b3⟩;have S3:=aa (S2.out.draw d3 b3);have B3:=aa (B2.out.trans (b3.fr (by omega)));have z3:=b3.size;have hb:=HBB.out b b0 b1;clear d3 b3 S2 B2 b0 b1 HBB hbn;go_wp2_with fail
   refine (eT S3.out.1).mono ?_
   rintro e w4 ⟨n,rfl,hn,d4,b4⟩;have S4:=aa (S3.out.draw d4 b4);have B4:=aa (B3.out.trans (b4.fr (by omega)));clear d4 b4 S3 B3;have HC:=aa (set6 S4.out hb hn);clear hb hn S4;go_wp2_with fail
   refine HC.out.mono ?_
   rintro e w5 ⟨v,rfl,hA,hB⟩;have HA:=aa ((hA).more (show G<=G+101 by omega));have HB:=aa (B4.out.trans hB);clear hA hB HC;go_wp2
   refine bodyPost_end (v:=.tuple #[]) (results_none rfl _ _ _) rfl ?_
   exact ⟨rfl,HA.out,HB.out⟩
 . skip
   obtain ⟨n1,n2,n3,n4,n5,n6,n7,n8,n9⟩:=fu S1.out.2.2.1;obtain ⟨g1,g2,g3,g4⟩:=aB.1 n5;have hbn:1<=aX q.1.n q.1.s/\aX q.1.n q.1.s<=256:=by
    unfold aX;rw [if_pos n5];have h1:1*2<=q.1.s*(q.1.n-1):=Int.mul_le_mul g3 (by omega) (by omega) (by omega);have h2:q.1.s*(q.1.n-1)<=8*4:=Int.mul_le_mul g4 (by omega) (by omega) (by omega);omega
   have HBB:Hid (∀b:Int,0<=b->(b<aX q.1.n q.1.s∨b=0)->cl q.1.n q.1.s b=true):=fun b h0 h1=>aI.2 ⟨h0,by omega⟩;obtain ⟨c1,c2,c4,c5⟩:=S1.out.cells;clear n1 n2 n3 n4 n5 n6 n7 n8 n9 g1 g2 g3 g4;go_wp2_with fail
   refine (de _ q.1.n q.1.s).mono ?_
   rintro e w2 ⟨rfl,b2⟩;have S2:=aa (S1.out.below b2);have B2:=aa (B1.out.trans (Fr.ofBelow b2 (by omega)));have z2:=b2.size;clear c1 c2 c4 c5 b2 S1 B1;generalize aX q.1.n q.1.s=bn at hbn HBB ⊢;go_wp2_with fail
   refine (bJ S2.out.1 bn (by omega) (by omega)).mono ?_
   rintro e w3 ⟨b,rfl,b0,b1,d3,b3⟩;have S3:=aa (S2.out.draw d3 b3);have B3:=aa (B2.out.trans (b3.fr (by omega)));have z3:=b3.size;have hb:=HBB.out b b0 b1;clear d3 b3 S2 B2 b0 b1 HBB hbn;go_wp2_with fail
   refine (eT S3.out.1).mono ?_
   rintro e w4 ⟨n,rfl,hn,d4,b4⟩;have S4:=aa (S3.out.draw d4 b4);have B4:=aa (B3.out.trans (b4.fr (by omega)));clear d4 b4 S3 B3;have HC:=aa (set6 S4.out hb hn);clear hb hn S4;go_wp2_with fail
   refine HC.out.mono ?_
   rintro e w5 ⟨v,rfl,hA,hB⟩;have HA:=aa ((hA).more (show G<=G+101 by omega));have HB:=aa (B4.out.trans hB);clear hA hB HC;go_wp2
   refine bodyPost_end (v:=.tuple #[]) (results_none rfl _ _ _) rfl ?_
   exact ⟨rfl,HA.out,HB.out⟩
 . skip
   obtain ⟨_,_,_,_,n5,_⟩:=fu S1.out.2.2.1;obtain ⟨_,_,g3,g4⟩:=aB.1 n5;obtain ⟨c1,c2,c4,c5⟩:=S1.out.cells;clear n5;go_wp2_with fail
   refine (bJ S1.out.1 q.1.s (by omega) (by omega)).mono ?_
   rintro e w3 ⟨b,rfl,b0,b1,d3,b3⟩;have S3:=aa (S1.out.draw d3 b3);have B3:=aa (B1.out.trans (b3.fr (by omega)));clear d3 b3 S1 B1 c1 c2 c4 c5 b0 b1;have HC:=aa (rN S3.out b);clear S3;go_wp2_with fail
   refine HC.out.mono ?_
   rintro e w5 ⟨v,rfl,hA,hB⟩;have HA:=aa ((hA).more (show G+1<=G+101 by omega));have HB:=aa (B3.out.trans hB);clear hA hB HC;go_wp2
   refine bodyPost_end (v:=.tuple #[]) (results_none rfl _ _ _) rfl ?_
   exact ⟨rfl,HA.out,HB.out⟩
 . skip
   obtain ⟨_,_,_,_,n5,_⟩:=fu S1.out.2.2.1;obtain ⟨_,_,g3,g4⟩:=aB.1 n5;obtain ⟨c1,c2,c4,c5⟩:=S1.out.cells;clear n5;go_wp2_with fail
   refine (bJ S1.out.1 q.1.s (by omega) (by omega)).mono ?_
   rintro e w3 ⟨b,rfl,b0,b1,d3,b3⟩;have S3:=aa (S1.out.draw d3 b3);have B3:=aa (B1.out.trans (b3.fr (by omega)));clear d3 b3 S1 B1 c1 c2 c4 c5 b0 b1;have HC:=aa (rN S3.out b);clear S3;go_wp2_with fail
   refine HC.out.mono ?_
   rintro e w5 ⟨v,rfl,hA,hB⟩;have HA:=aa ((hA).more (show G+1<=G+101 by omega));have HB:=aa (B3.out.trans hB);clear hA hB HC;go_wp2
   refine bodyPost_end (v:=.tuple #[]) (results_none rfl _ _ _) rfl ?_
   exact ⟨rfl,HA.out,HB.out⟩
 . skip
   obtain ⟨_,_,_,_,n5,_⟩:=fu S1.out.2.2.1;obtain ⟨_,_,g3,g4⟩:=aB.1 n5;obtain ⟨c1,c2,c4,c5⟩:=S1.out.cells;clear n5;go_wp2_with fail
   refine (bJ S1.out.1 q.1.s (by omega) (by omega)).mono ?_
   rintro e w3 ⟨b,rfl,b0,b1,d3,b3⟩;have S3:=aa (S1.out.draw d3 b3);have B3:=aa (B1.out.trans (b3.fr (by omega)));clear d3 b3 S1 B1 c1 c2 c4 c5 b0 b1;have HC:=aa (rN S3.out b);clear S3;go_wp2_with fail
   refine HC.out.mono ?_
   rintro e w5 ⟨v,rfl,hA,hB⟩;have HA:=aa ((hA).more (show G+1<=G+101 by omega));have HB:=aa (B3.out.trans hB);clear hA hB HC;go_wp2
   refine bodyPost_end (v:=.tuple #[]) (results_none rfl _ _ _) rfl ?_
   exact ⟨rfl,HA.out,HB.out⟩
 . skip
   have HC:=aa (all6 S1.out);clear S1;go_wp2_with fail
   refine HC.out.mono ?_
   rintro e w5 ⟨v,rfl,hA,hB⟩;have HA:=aa ((hA).more (show G+101<=G+101 by omega));have HB:=aa (B1.out.trans hB);clear hA hB HC;go_wp2
   refine bodyPost_end (v:=.tuple #[]) (results_none rfl _ _ _) rfl ?_
   exact ⟨rfl,HA.out,HB.out⟩
 . skip
   obtain ⟨n1,n2,n3,n4,n5,n6,n7,n8,n9⟩:=fu S1.out.2.2.1;obtain ⟨g1,g2,g3,g4⟩:=aB.1 n5;go_wp2_with fail
   refine (mS S1.out.1 3 (by omega) (by omega)).mono ?_
   rintro e w2 ⟨t,rfl,d2,b2⟩;have S2:=aa (S1.out.draw d2 b2);have B2:=aa (B1.out.trans (b2.fr (by omega)));have z2:=b2.size;clear d2 b2 S1 B1;obtain ⟨c1,c2,c4,c5⟩:=S2.out.cells;cases t
   . skip
     have HA:=aa ((show At6 w2 g a lb cb zs N B G from ⟨_,_,_,_,S2.out⟩).more (show G<=G+101 by omega));have HB:=aa (B2.out);go_wp2
     refine bodyPost_end (v:=.tuple #[]) (results_none rfl _ _ _) rfl ?_
     exact ⟨rfl,HA.out,HB.out⟩
   by_cases hl:q.1.lost=-1
   . have HL:=aa hl
     rw [hl] at c4;clear hl;go_wp2_with fail
     refine (bJ S2.out.1 q.1.n (by omega) (by omega)).mono ?_
     rintro e w3 ⟨b,rfl,b0,b1,d3,b3⟩;have S3:=aa (S2.out.draw d3 b3);have B3:=aa (B2.out.trans (b3.fr (by omega)));clear d3 b3 S2 B2 c1 c2 c4 c5;have HC:=aa (fail6 S3.out (by omega) HL.out b0 (by omega));clear S3 b0 b1;go_wp2_with fail
     refine HC.out.mono ?_
     rintro e w5 ⟨rfl,hA,hB⟩;have HA:=aa ((hA).more (show G+1<=G+101 by omega));have HB:=aa (B3.out.trans hB);clear hA hB HC;go_wp2
     refine bodyPost_end (v:=.tuple #[]) (results_none rfl _ _ _) rfl ?_
     exact ⟨rfl,HA.out,HB.out⟩
   have hl2:(q.1.lost==-1)=false:=by simpa using hl
   have HA:=aa (((show At6 w2 g a lb cb zs N B G from ⟨_,_,_,_,S2.out⟩)).more (show G<=G+101 by omega));have HB:=aa (B2.out);clear hl;go_wp2
   refine bodyPost_end (v:=.tuple #[]) (results_none rfl _ _ _) rfl ?_
   exact ⟨rfl,HA.out,HB.out⟩
 . skip
   obtain ⟨n1,n2,n3,n4,n5,n6,n7,n8,n9⟩:=fu S1.out.2.2.1;obtain ⟨c1,c2,c4,c5⟩:=S1.out.cells;have HA0:=aa (show At6 w1 g a lb cb zs N B G from ⟨_,_,_,_,S1.out⟩);by_cases hl:0<=q.1.lost
   . obtain ⟨k,b,cm,f,hk,hkl,c3,cf⟩:=S1.out.flag hl
     have HK:=aa hk;rw [hk] at c4;have k1:(0:Int)<=(k:Int):=by omega
     have k2:(k:Int)<(q.2.length:Int):=by omega
     clear hk hl;cases f
     . skip
       go_wp2_with fail
       go_quiet (fail)
       have bq:Below w1.heap.size w1 (w1.drewN nq):=((aN.refl w1).drewN nq).below _;have S2:=aa (S1.out.below bq);have B2:=aa (B1.out.trans (Fr.ofBelow bq (by omega)));clear bq S1 B1 HA0;generalize w1.drewN nq=w2 at S2 B2 ⊢;have HA:=aa (((show At6 w2 g a lb cb zs N B G from ⟨_,_,_,_,S2.out⟩)).more (show G<=G+101 by omega));have HB:=aa (B2.out);go_wp2
       refine bodyPost_end (v:=.tuple #[]) (results_none rfl _ _ _) rfl ?_
       exact ⟨rfl,HA.out,HB.out⟩
     skip
     go_wp2_with fail
     go_quiet (fail)
     have bq:Below w1.heap.size w1 (w1.drewN nq):=((aN.refl w1).drewN nq).below _;have S2:=aa (S1.out.below bq);have B2:=aa (B1.out.trans (Fr.ofBelow bq (by omega)));clear bq S1 B1 HA0;generalize w1.drewN nq=w2 at S2 B2 ⊢;have HC:=aa (spare6 S2.out (by omega) (by have:=HK.out;omega));clear S2;go_wp2_with fail
     refine HC.out.mono ?_
     rintro e w5 ⟨v,rfl,hA,hB⟩;have HA:=aa ((hA).more (show G+1<=G+101 by omega));have HB:=aa (B2.out.trans hB);clear hA hB HC;go_wp2
     refine bodyPost_end (v:=.tuple #[]) (results_none rfl _ _ _) rfl ?_
     exact ⟨rfl,HA.out,HB.out⟩
   have hl2:q.1.lost=-1:=by have:=pk S1.out.2.2.1;omega
   rw [hl2] at c4;clear hl hl2;go_wp2_with fail
   go_quiet (fail)
   have bq:Below w1.heap.size w1 (w1.drewN nq):=((aN.refl w1).drewN nq).below _;have S2:=aa (S1.out.below bq);have B2:=aa (B1.out.trans (Fr.ofBelow bq (by omega)));clear bq S1 B1 HA0;generalize w1.drewN nq=w2 at S2 B2 ⊢;have HA:=aa (((show At6 w2 g a lb cb zs N B G from ⟨_,_,_,_,S2.out⟩)).more (show G<=G+101 by omega));have HB:=aa (B2.out);go_wp2
   refine bodyPost_end (v:=.tuple #[]) (results_none rfl _ _ _) rfl ?_
   exact ⟨rfl,HA.out,HB.out⟩
 . skip
   obtain ⟨n1,n2,n3,n4,n5,n6,n7,n8,n9⟩:=fu S1.out.2.2.1;obtain ⟨c1,c2,c4,c5⟩:=S1.out.cells;have HA0:=aa (show At6 w1 g a lb cb zs N B G from ⟨_,_,_,_,S1.out⟩);by_cases hl:0<=q.1.lost
   . obtain ⟨k,b,cm,f,hk,hkl,c3,cf⟩:=S1.out.flag hl
     have HK:=aa hk;rw [hk] at c4;have k1:(0:Int)<=(k:Int):=by omega
     have k2:(k:Int)<(q.2.length:Int):=by omega
     clear hk hl;cases f
     . by_cases hbs:q.1.vG<q.1.s
       . have HS:=aa hbs
         go_wp2_with fail
         go_quiet (fail)
         have bq:Below w1.heap.size w1 (w1.drewN nq):=((aN.refl w1).drewN nq).below _;have S2:=aa (S1.out.below bq);have B2:=aa (B1.out.trans (Fr.ofBelow bq (by omega)));clear bq S1 B1 HA0;generalize w1.drewN nq=w2 at S2 B2 ⊢;have HC:=aa (step6 S2.out (by have:=HK.out;omega) HS.out);clear S2;go_wp2_with fail
         refine HC.out.mono ?_
         rintro e w5 ⟨v,rfl,hA,hB⟩;have HA:=aa ((hA).more (show G<=G+101 by omega));have HB:=aa (B2.out.trans hB);clear hA hB HC;go_wp2
         refine bodyPost_end (v:=.tuple #[]) (results_none rfl _ _ _) rfl ?_
         exact ⟨rfl,HA.out,HB.out⟩
       skip
       go_wp2_with fail
       go_quiet (fail)
       have bq:Below w1.heap.size w1 (w1.drewN nq):=((aN.refl w1).drewN nq).below _;have S2:=aa (S1.out.below bq);have B2:=aa (B1.out.trans (Fr.ofBelow bq (by omega)));clear bq S1 B1 HA0;generalize w1.drewN nq=w2 at S2 B2 ⊢;have HA:=aa (((show At6 w2 g a lb cb zs N B G from ⟨_,_,_,_,S2.out⟩)).more (show G<=G+101 by omega));have HB:=aa (B2.out);go_wp2
       refine bodyPost_end (v:=.tuple #[]) (results_none rfl _ _ _) rfl ?_
       exact ⟨rfl,HA.out,HB.out⟩
     skip
     go_wp2_with fail
     go_quiet (fail)
     have bq:Below w1.heap.size w1 (w1.drewN nq):=((aN.refl w1).drewN nq).below _;have S2:=aa (S1.out.below bq);have B2:=aa (B1.out.trans (Fr.ofBelow bq (by omega)));clear bq S1 B1 HA0;generalize w1.drewN nq=w2 at S2 B2 ⊢;have HA:=aa (((show At6 w2 g a lb cb zs N B G from ⟨_,_,_,_,S2.out⟩)).more (show G<=G+101 by omega));have HB:=aa (B2.out);go_wp2
     refine bodyPost_end (v:=.tuple #[]) (results_none rfl _ _ _) rfl ?_
     exact ⟨rfl,HA.out,HB.out⟩
   have hl2:q.1.lost=-1:=by have:=pk S1.out.2.2.1;omega
   rw [hl2] at c4;clear hl hl2;go_wp2_with fail
   go_quiet (fail)
   have bq:Below w1.heap.size w1 (w1.drewN nq):=((aN.refl w1).drewN nq).below _;have S2:=aa (S1.out.below bq);have B2:=aa (B1.out.trans (Fr.ofBelow bq (by omega)));clear bq S1 B1 HA0;generalize w1.drewN nq=w2 at S2 B2 ⊢;have HA:=aa (((show At6 w2 g a lb cb zs N B G from ⟨_,_,_,_,S2.out⟩)).more (show G<=G+101 by omega));have HB:=aa (B2.out);go_wp2
   refine bodyPost_end (v:=.tuple #[]) (results_none rfl _ _ _) rfl ?_
   exact ⟨rfl,HA.out,HB.out⟩
 . skip
   obtain ⟨n1,n2,n3,n4,n5,n6,n7,n8,n9⟩:=fu S1.out.2.2.1;obtain ⟨c1,c2,c4,c5⟩:=S1.out.cells;have HA0:=aa (show At6 w1 g a lb cb zs N B G from ⟨_,_,_,_,S1.out⟩);by_cases hl:0<=q.1.lost
   . obtain ⟨k,b,cm,f,hk,hkl,c3,cf⟩:=S1.out.flag hl
     have HK:=aa hk;rw [hk] at c4;have k1:(0:Int)<=(k:Int):=by omega
     have k2:(k:Int)<(q.2.length:Int):=by omega
     clear hk hl;cases f
     . by_cases hbs:q.1.vG<q.1.s
       . have HS:=aa hbs
         go_wp2_with fail
         go_quiet (fail)
         have bq:Below w1.heap.size w1 (w1.drewN nq):=((aN.refl w1).drewN nq).below _;have S2:=aa (S1.out.below bq);have B2:=aa (B1.out.trans (Fr.ofBelow bq (by omega)));clear bq S1 B1 HA0;generalize w1.drewN nq=w2 at S2 B2 ⊢;have HC:=aa (step6 S2.out (by have:=HK.out;omega) HS.out);clear S2;go_wp2_with fail
         refine HC.out.mono ?_
         rintro e w5 ⟨v,rfl,hA,hB⟩;have HA:=aa ((hA).more (show G<=G+101 by omega));have HB:=aa (B2.out.trans hB);clear hA hB HC;go_wp2
         refine bodyPost_end (v:=.tuple #[]) (results_none rfl _ _ _) rfl ?_
         exact ⟨rfl,HA.out,HB.out⟩
       skip
       go_wp2_with fail
       go_quiet (fail)
       have bq:Below w1.heap.size w1 (w1.drewN nq):=((aN.refl w1).drewN nq).below _;have S2:=aa (S1.out.below bq);have B2:=aa (B1.out.trans (Fr.ofBelow bq (by omega)));clear bq S1 B1 HA0;generalize w1.drewN nq=w2 at S2 B2 ⊢;have HA:=aa (((show At6 w2 g a lb cb zs N B G from ⟨_,_,_,_,S2.out⟩)).more (show G<=G+101 by omega));have HB:=aa (B2.out);go_wp2
       refine bodyPost_end (v:=.tuple #[]) (results_none rfl _ _ _) rfl ?_
       exact ⟨rfl,HA.out,HB.out⟩
     skip
     go_wp2_with fail
     go_quiet (fail)
     have bq:Below w1.heap.size w1 (w1.drewN nq):=((aN.refl w1).drewN nq).below _;have S2:=aa (S1.out.below bq);have B2:=aa (B1.out.trans (Fr.ofBelow bq (by omega)));clear bq S1 B1 HA0;generalize w1.drewN nq=w2 at S2 B2 ⊢;have HA:=aa (((show At6 w2 g a lb cb zs N B G from ⟨_,_,_,_,S2.out⟩)).more (show G<=G+101 by omega));have HB:=aa (B2.out);go_wp2
     refine bodyPost_end (v:=.tuple #[]) (results_none rfl _ _ _) rfl ?_
     exact ⟨rfl,HA.out,HB.out⟩
   have hl2:q.1.lost=-1:=by have:=pk S1.out.2.2.1;omega
   rw [hl2] at c4;clear hl hl2;go_wp2_with fail
   go_quiet (fail)
   have bq:Below w1.heap.size w1 (w1.drewN nq):=((aN.refl w1).drewN nq).below _;have S2:=aa (S1.out.below bq);have B2:=aa (B1.out.trans (Fr.ofBelow bq (by omega)));clear bq S1 B1 HA0;generalize w1.drewN nq=w2 at S2 B2 ⊢;have HA:=aa (((show At6 w2 g a lb cb zs N B G from ⟨_,_,_,_,S2.out⟩)).more (show G<=G+101 by omega));have HB:=aa (B2.out);go_wp2
   refine bodyPost_end (v:=.tuple #[]) (results_none rfl _ _ _) rfl ?_
   exact ⟨rfl,HA.out,HB.out⟩
 . skip
   have HC:=aa (check6 S1.out (by omega));clear S1;go_wp2_with fail
   refine HC.out.mono ?_
   rintro e w5 ⟨rfl,hA,hB⟩;have HA:=aa ((hA).more (show G+1<=G+101 by omega));have HB:=aa (B1.out.trans hB);clear hA hB HC;go_wp2
   refine bodyPost_end (v:=.tuple #[]) (results_none rfl _ _ _) rfl ?_
   exact ⟨rfl,HA.out,HB.out⟩
 skip
 obtain ⟨n1,n2,n3,n4,n5,n6,n7,n8,n9⟩:=fu S1.out.2.2.1;obtain ⟨g1,g2,g3,g4⟩:=aB.1 n5;obtain ⟨c1,c2,c4,c5⟩:=S1.out.cells;by_cases hl:q.1.lost=-1
 . rw [hl] at c4
   clear hl;go_wp2_with fail
   refine (mS S1.out.1 3 (by omega) (by omega)).mono ?_
   rintro e w2 ⟨t,rfl,d2,b2⟩;have S2:=aa (S1.out.draw d2 b2);have B2:=aa (B1.out.trans (b2.fr (by omega)));have z2:=b2.size;clear d2 b2 S1 B1 c1 c2 c4 c5;obtain ⟨c1,c2,c4,c5⟩:=S2.out.cells;cases t
   . skip
     have HA:=aa (((show At6 w2 g a lb cb zs N B G from ⟨_,_,_,_,S2.out⟩)).more (show G<=G+101 by omega));have HB:=aa (B2.out);go_wp2
     refine bodyPost_end (v:=.tuple #[]) (results_none rfl _ _ _) rfl ?_
     exact ⟨rfl,HA.out,HB.out⟩
   skip
   go_wp2_with fail
   refine (bJ S2.out.1 q.1.n (by omega) (by omega)).mono ?_
   rintro e w3 ⟨m0,rfl,m1,m2,d3,b3⟩;have S3:=aa (S2.out.draw d3 b3);have B3:=aa (B2.out.trans (b3.fr (by omega)));have z3:=b3.size;clear d3 b3 S2 B2 c1 c2 c4 c5;obtain ⟨m,rfl⟩:=Int.eq_ofNat_of_zero_le m1;have hml:m<q.2.length:=by omega
   have hdj:q.2[m]?=some (q.2[m]'hml):=List.getElem?_eq_getElem hml;generalize q.2[m]'hml=d at hdj;obtain ⟨D3,A3,G3,gB3,gm3,gd3⟩:=S3.out;have S3d:=S3.out.below ((Below.refl w3.heap.size w3).drew);obtain ⟨bm,bd,cm,cd,X,hmm,hdd,hr,r1,r2⟩:=A3;obtain ⟨gr,rfl⟩:=bU hmm (by omega);obtain ⟨hgl2,a0,a1,a3,c0,c1,c3,ss,cs,f,bs,rfl,q0,q1,q2,q3,p0,p1,p3⟩:=dM hmm hdj;have hgm:gr∈fm:=by
    rcases hmm.1 with ⟨h1,_⟩|⟨_,_,_,_,h1,_,_,_,_,h6,_⟩
    . simp at h1
    simp only [List.cons.injEq,Value.slice.injEq,Option.some.injEq,Addr.mk.injEq,and_true] at h1;rw [h6,h1.1];exact List.mem_cons_self
   have X0:=X;unfold aC at X0;obtain ⟨k0,k1,k2,k3,k4,k5,k6,k7,k8,k9,k10,k11,k12⟩:=X0.cells13;have lB:=X.lt;have hwt:=du (n2 m _ hdj) f;dsimp only at hwt
   have ggr:=gm3 gr hgm;have hS:w3.drew.cell? ⟨B,2,none⟩=some (.int .i64 q.1.s)/\w3.drew.cell? ⟨B,3,none⟩=some (.slice (some ⟨gr,0,none⟩) q.2.length cm)/\w3.drew.cell? ⟨gr,m*4,none⟩=some (.slice a0 ss.length c0)/\w3.drew.cell? ⟨gr,m*4+1,none⟩=some (.slice a1 cs.length c1)/\w3.drew.cell? ⟨gr,m*4+2,none⟩=some (.bool f)/\w3.drew.cell? ⟨gr,m*4+3,none⟩=some (.slice a3 bs.length c3):=⟨k2,k3,q0,q1,q2,q3⟩;have XH:=aa X;have MH:=aa hmm;have DH:=aa hdd;have DJ:=aa hdj;have P0:=aa p0;have P1:=aa p1;have P3:=aa p3;have HG3:=aa G3;have i1:(0:Int)<=(m:Int):=by omega
   have i2:(m:Int)<(q.2.length:Int):=by omega
   clear X X0 hmm hdd hdj p0 p1 p3 D3 G3 S3 k0 k1 k2 k3 k4 k5 k6 k7 k8 k9 k10 k11 k12 q0 q1 q2 q3 n1 n2 n3 n4 n5 n6 n7 n8 n9;go_wp2_with fail
   refine ah.start (S:=fun w'=>w'.cell? ⟨B,2,none⟩=some (.int .i64 q.1.s)/\w'.cell? ⟨B,3,none⟩=some (.slice (some ⟨gr,0,none⟩) q.2.length cm)/\w'.cell? ⟨gr,m*4,none⟩=some (.slice a0 ss.length c0)/\w'.cell? ⟨gr,m*4+1,none⟩=some (.slice a1 cs.length c1)/\w'.cell? ⟨gr,m*4+2,none⟩=some (.bool f)/\w'.cell? ⟨gr,m*4+3,none⟩=some (.slice a3 bs.length c3)) (k:=22) (by kernel_rfl) ?_
   refine ah.t 0 hS ?_
   refine ah.t 1 hS ?_
   refine ah.t 2 hS ?_
   refine ah.t 3 hS ?_
   refine ah.t 4 hS ?_
   refine ah.t 5 hS ?_
   refine ah.t 6 hS ?_
   refine ah.t 7 hS ?_
   refine ah.t 8 hS ?_
   refine ah.t 9 hS ?_
   refine ah.t 10 hS ?_
   refine ah.t 11 hS ?_
   refine ah.t 12 hS ?_
   refine ah.t 13 hS ?_
   refine ah.t 14 hS ?_
   refine ah.t 15 hS ?_
   refine ah.t 16 hS ?_
   refine ah.t 17 hS ?_
   refine ah.one (i:=18) (by kernel_rfl) rfl (fun K hK=>?_)
   go_simp
   refine (bJ S3d.1 q.1.s (by omega) (by omega)).mono ?_
   rintro e w4 ⟨b,rfl,b0,b1,d4,b4⟩;have b4:But g (g+1) w3 w4:=⟨b4.os,b4.tape,b4.output,b4.size,b4.block⟩;have z4:w3.heap.size<=w4.heap.size:=b4.size;have kB:w4.heap[B]?=w3.heap[B]?:=b4.block B lB (by omega);have kG:w4.heap[gr]?=w3.heap[gr]?:=b4.block gr hgl2 (by omega);obtain ⟨h1,h2,h3,h4,h5,h6⟩:=hS;have hS4:w4.cell? ⟨B,2,none⟩=some (.int .i64 q.1.s)/\w4.cell? ⟨B,3,none⟩=some (.slice (some ⟨gr,0,none⟩) q.2.length cm)/\w4.cell? ⟨gr,m*4,none⟩=some (.slice a0 ss.length c0)/\w4.cell? ⟨gr,m*4+1,none⟩=some (.slice a1 cs.length c1)/\w4.cell? ⟨gr,m*4+2,none⟩=some (.bool f)/\w4.cell? ⟨gr,m*4+3,none⟩=some (.slice a3 bs.length c3):=⟨(cW kB 2).trans h1,(cW kB 3).trans h2,(cW kG _).trans h3,(cW kG _).trans h4,(cW kG _).trans h5,(cW kG _).trans h6⟩;go_wp2_with fail
   refine hK.out _ _ (fun _=>hS4) ?_
   clear hK K h1 h2 h3 h4 h5 h6;refine ah.one (i:=19) (by kernel_rfl) rfl (fun K hK=>?_)
   go_simp
   refine (cz _ b).mono ?_
   rintro e w5 ⟨rfl,hw5⟩;subst w5;go_wp2_with fail
   refine hK.out _ _ (fun _=>hS4) ?_
   clear hK K;have T4:aw [g] w3 w4:=⟨b4.os,b4.tape,b4.output,b4.size,fun k hk hf=>b4.block k hk (by simp at hf;omega)⟩;have X4:=XH.out.kept kB;have M4:=MH.out.kept T4 (fun b hb hm=>by have:=gm3 b hb;simp at hm;omega);have E4:=DH.out.kept T4 (fun b hb hm=>by have:=gd3 b hb;simp at hm;omega);obtain ⟨_,x0,x1,x3,y0,y1,y3,ss1,cs1,f1,bs1,hde,q0,q1,q2,q3,p0,p1,p3⟩:=dM M4 DJ.out;simp only [Prod.mk.injEq] at hde
   obtain ⟨rfl,rfl,rfl,rfl⟩:=hde;have e0:=hS4.2.2.1.symm.trans q0;have e1:=hS4.2.2.2.1.symm.trans q1;have e3:=hS4.2.2.2.2.2.symm.trans q3;simp only [Option.some.injEq,Value.slice.injEq,true_and] at e0 e1 e3
   obtain ⟨rfl,rfl⟩:=e0;obtain ⟨rfl,rfl⟩:=e1;obtain ⟨rfl,rfl⟩:=e3;refine ah.one (i:=20) (by kernel_rfl) rfl (fun K hK=>?_)
   go_simp
   refine (gX _ 171 _ _ _ _ _ _ _ _ _ ss cs f bs (bV b) p0 p1 p3 (by omega)).mono ?_
   rintro e w6 ⟨u0,u1,u3,rfl,o6,b6⟩;obtain ⟨e0,l0,f0,e1,l1,f1,e3,l3,f3,hv0,hv1,hv3⟩:=bS o6;subst hv0 hv1 hv3;have z6:=b6.size;have X6:=X4.below b6 X4.lt;obtain ⟨fpx,mx,rx⟩:=o6.mine;obtain ⟨cOld,fz,_,fm9,hA9,hMv9⟩:=eu X4 M4 E4 hr r1 r2 b6 hml mx (fun b hb=>(rx b hb).1);obtain ⟨o0,t0⟩:=cOld 0 (by omega);obtain ⟨o1,t1⟩:=cOld 1 (by omega);obtain ⟨o2,t2⟩:=cOld 2 (by omega);obtain ⟨o3,t3⟩:=cOld 3 (by omega);rw [Nat.add_zero] at t0;obtain ⟨h1,h2,h3,h4,h5,h6⟩:=hS4;have lG4:gr<w4.heap.size:=by omega
   have lB4:B<w4.heap.size:=by omega
   have hS6:w6.cell? ⟨B,2,none⟩=some (.int .i64 q.1.s)/\w6.cell? ⟨B,3,none⟩=some (.slice (some ⟨gr,0,none⟩) q.2.length cm)/\w6.cell? ⟨gr,m*4,none⟩=some (.slice a0 ss.length c0)/\w6.cell? ⟨gr,m*4+1,none⟩=some (.slice a1 cs.length c1)/\w6.cell? ⟨gr,m*4+2,none⟩=some (.bool f)/\w6.cell? ⟨gr,m*4+3,none⟩=some (.slice a3 bs.length c3):=⟨(b6.cell (p:=⟨B,2,none⟩) lB4).trans h1,(b6.cell (p:=⟨B,3,none⟩) lB4).trans h2,(b6.cell (p:=⟨gr,m*4,none⟩) lG4).trans h3,(b6.cell (p:=⟨gr,m*4+1,none⟩) lG4).trans h4,(b6.cell (p:=⟨gr,m*4+2,none⟩) lG4).trans h5,(b6.cell (p:=⟨gr,m*4+3,none⟩) lG4).trans h6⟩;have HGD:=aa (rK HG3.out DJ.out (bV b));have SN:Hid (At6 (fi w6 gr (m*4) (.slice e0 l0 f0) (.slice e1 l1 f1) (.bool f) (.slice e3 l3 f3)) g a lb cb zs N B G/\Fr N g w4 (fi w6 gr (m*4) (.slice e0 l0 f0) (.slice e1 l1 f1) (.bool f) (.slice e3 l3 f3))):=mR (q:=q) (q':=(q.1,q.2.set m (ss,cs,f,iQ ss cs bs (bV b)))) (show St6 w4 g a lb cb zs N B G q ds fm fd from ⟨d4,⟨_,_,_,_,X4,M4,E4,hr,r1,r2⟩,HG3.out,⟨gB3.1,by omega,gB3.2.2⟩,gm3,gd3⟩) hA9 hMv9 HGD.out;unfold fi at SN;have B4:=aa (B3.out.trans (b4.fr (by omega)));go_wp2_with fail
   refine hK.out _ _ (fun _=>hS6) ?_
   clear hK K X4 M4 E4 X6 o6 b6 mx rx cOld hA9 hMv9 d4 b4 T4 h1 h2 h3 h4 h5 h6 q0 q1 q2 q3 p0 p1 p3 HGD;refine ah.one (i:=21) (by kernel_rfl) rfl (fun K hK=>?_)
   go_simp
   refine hK.out _ _ (fun _=>hS6) ?_
   clear hK K;refine ah.one (i:=22) (by kernel_rfl) rfl (fun K hK=>?_)
   go_simp
   refine hK.out _ _ (fun h=>absurd rfl h) ?_
   clear hK K;refine ah.done (by kernel_rfl) ?_ _
   have HA:=aa (SN.out.1.more (show G<=G+101 by omega));have HB:=aa (B4.out.trans SN.out.2);clear SN hS6 t0 t1 t2 t3 fz;go_wp2
   refine bodyPost_end (v:=.tuple #[]) (results_none rfl _ _ _) rfl ?_
   exact ⟨rfl,HA.out,HB.out⟩
 have hl2:(q.1.lost==-1)=false:=by simpa using hl
 have HA0:=aa (show At6 w1 g a lb cb zs N B G from ⟨_,_,_,_,S1.out⟩);have HA:=aa ((HA0.out).more (show G<=G+101 by omega));have HB:=aa (B1.out);clear hl;go_wp2
 refine bodyPost_end (v:=.tuple #[]) (results_none rfl _ _ _) rfl ?_
 exact ⟨rfl,HA.out,HB.out⟩
def gl (id n s role:Int):Sup:=⟨id,0,role,n,s,0,-1,0⟩
def fD (P:List Int) (k j:Nat):List (List Int):=P :: (List.replicate 5 []++(List.replicate j [0]++List.replicate (k-j) []))
def oG (id n s:Int) (i:Nat):ai:=(fD (dN (gl id n s (i:Int))) s.toNat s.toNat,[],false,[])
def gp (id n s:Int) (j:Nat):List ai:=(List.range j).map fun (i:Nat)=>oG id n s i
def pn (id n s:Int):Bool:=bF n s&&inB id 1 60000
def iC (id n s:Int):al:=if pn id n s=true then ⟨id,n,s,-1,0,0,0,0,-1,false,false⟩ else ⟨0,0,0,0,0,0,0,0,0,false,false⟩
def jc (id n s:Int):List ai:=if pn id n s=true then gp id n s n.toNat else []
theorem rP (id n s:Int) (j:Nat):gp id n s (j+1)=gp id n s j++[oG id n s j]:=by unfold gp;rw [List.range_succ,List.map_append];rfl
theorem jn (id n s:Int) (j:Nat):(gp id n s j).length=j:=by unfold gp;simp
theorem jo (P:List Int) (k j:Nat) (h:j<=k):(fD P k j).length=6+k:=by unfold fD;simp;omega
theorem oH {id n s role:Int} (hg:bF n s=true) (hi:inB id 1 60000=true) (h0:0<=role) (h1:role<n):eA (gl id n s role)=true:=by
 obtain ⟨g1,g2,g3,g4⟩:=aB.1 hg;obtain ⟨i1,i2⟩:=aI.1 hi;rw [eB];unfold gl;dsimp only
 omega
theorem vC {x:Sup} (h:eA x=true):da (dN x)=true:=by
 obtain ⟨⟨g1,g2,g3,g4⟩,hl,⟨r1,r2⟩,⟨i1,i2⟩,⟨e1,e2⟩,t1,t2⟩:=eB.1 h;unfold dN;rw [if_pos h];unfold da cG isW;simp
 try omega
theorem oI {k:Nat} (hk:k<=8):dS (6+(k:Int))=List.replicate (6+k) []:=by
 unfold dS;rw [if_pos (by omega),show (6+(k:Int)).toNat=6+k from (by omega)]
theorem kK {P:List Int} {k j q:Nat} (hj:j<=k) (hq:q<6+k):(fD P k j)[q]?=some (if q=0 then P else if 6<=q/\q<6+j then [0] else []):=by
 unfold fD;match q,hq with
 | 0,_=>rfl
 | q+1,hq=>
  rw [List.getElem?_cons_succ,if_neg (by omega)];by_cases h5:q<5
  . rw [List.getElem?_append_left (by simpa using h5),List.getElem?_replicate_of_lt h5,if_neg (by omega)]
  rw [List.getElem?_append_right (by simp;omega),List.length_replicate];by_cases h1:q-5<j
  . rw [List.getElem?_append_left (by simpa using h1),List.getElem?_replicate_of_lt h1,if_pos (by omega)]
  rw [List.getElem?_append_right (by simp;omega),List.length_replicate,List.getElem?_replicate_of_lt (by omega),if_neg (by omega)]
theorem rQ {P:List Int} {k:Nat} (hk:k<=8):(dS (6+(k:Int))).set 0 P=fD P k 0:=by
 rw [oI hk,show 6+k=(5+k)+1 by omega,List.replicate_succ,List.set_cons_zero];unfold fD;rw [List.replicate_zero,List.nil_append,Nat.sub_zero,List.replicate_append_replicate]
theorem ts {P:List Int} {k j:Nat} (hj:j<k):(fD P k j).set (6+j) [0]=fD P k (j+1):=by
 refine dE (n:=6+k) (by rw [List.length_set];exact jo _ _ _ (Nat.le_of_lt hj)) (jo _ _ _ hj) (fun q hq=>?_)
 rw [kK hj hq];by_cases h:q=6+j
 . subst h
   rw [List.getElem?_set_self (by rw [jo _ _ _ (Nat.le_of_lt hj)];omega),if_neg (by omega),if_pos (by omega)]
 rw [List.getElem?_set_ne (fun e=>h e.symm),kK (Nat.le_of_lt hj) hq];by_cases h0:q=0
 . rw [if_pos h0,if_pos h0]
 rw [if_neg h0,if_neg h0];by_cases h1:6<=q/\q<6+j
 . rw [if_pos h1,if_pos (by omega)]
 rw [if_neg h1,if_neg (by omega)]
def bw (P:Program) (ops:Array Oper) (Q:Exit->Act->World->Prop) (S:World->Prop) (k:Nat):Nat->Array Bool->Act->World->Prop
 | 0,l,a,w=>Region.ready .any ops l=[]/\Q .normal a w
 | n+1,l,a,w=>(Region.ready .any ops l=[]->Q .normal a w)/\∀j∈Region.ready .any ops l,wpOp P ops Q j (fun a' w'=>(j≠k->l.getD k true=false->S w')/\bw P ops Q S k n (l.setIfInBounds j true) a' w') a w
section
variable {P:Program} {ops:Array Oper} {Q:Exit->Act->World->Prop} {S:World->Prop} {k:Nat}
theorem bw.any:∀(n:Nat) (l:Array Bool) (a:Act) (w:World),bw P ops Q S k n l a w->wpAny P .any ops Q n l a w
 | 0,_,_,_,h=>h
 | n+1,_,_,_,h=>⟨h.1,fun j hj=>wpOp_mono (fun a' w' h'=>bw.any n _ a' w' h'.2) (h.2 j hj)⟩
theorem bw.start {id:Nat} {a:Act} {w:World} (hm:P.follows .mixedOrders=true) (h:bw P ops Q S k ops.size (Array.replicate ops.size false) a w.drew):(Code.region id ops true).wp P Q a w:=
 wp_region_any hm (bw.any _ _ _ _ h)
theorem bw.first {i:Nat} {oi ok:Oper} {v:Value} (hi:ops[i]?=some oi) (hk:ops[k]?=some ok) (hki:∃e∈ok.after,Region.binds .any e=true/\e.on=i)
 (hsel:∀(j:Nat) (o:Oper) cs b,ops[j]?=some o->o.op≠.select cs b) (hQ:∀c a w,Q (.panic c) (a.put oi.dst v) w->Q (.panic c) a w) (n:Nat):
 ∀(l:Array Bool) (a:Act) (w:World),
  (∀j oj,ops[j]?=some oj->j≠i->l.getD j true=false->(∀e∈oj.after,Region.binds .any e=true->e.on≠i)->oi.apart ops oj=true) ->
  l.getD k true=false->i∈Region.ready .any ops l->YieldsIf P ops S oi v a->S w->bw P ops Q S k n (l.setIfInBounds i true) (a.put oi.dst v) w->bw P ops Q S k (n+1) l a w:=by
 induction n with
 | zero=>
  intro l a w _ hkl hr hy hS H;constructor
  . intro h
    rw [h] at hr;simp at hr
  intro j hj;by_cases hji:j=i
  . rw [hji]
    exact hy.wpOp hi hS ⟨fun _ _=>hS,H⟩
  have h2:=ready_mono (i:=i) hj hji;rw [H.1] at h2;simp at h2
 | succ n ih=>
  intro l a w hfree hkl hr hy hS H;constructor
  . intro h
    rw [h] at hr;simp at hr
  intro j hj;by_cases hji:j=i
  . rw [hji]
    exact hy.wpOp hi hS ⟨fun _ _=>hS,H⟩
  obtain ⟨hju,oj,hoj,hall⟩:=mem_ready.1 hj;have hiu:=(mem_ready.1 hr).1;have hno:∀e∈oj.after,Region.binds .any e=true->e.on≠i:=fun e he hb hon=>lE hiu (hon▸hall e he hb);have hjk:j≠k:=by
   intro hjk;rw [hjk,hk] at hoj;obtain ⟨e,he,hb,hon⟩:=hki;cases hoj;exact hno e he hb hon
  have h1:=H.2 j (ready_mono hj hji);have h2:=wpOp_putIf hoj (hfree j oj hoj hji hju hno) (fun cs b=>hsel i oi cs b hi) (fun cs b=>hsel j oj cs b hoj) hQ hy h1;refine wpOp_mono ?_ h2
  intro a' w' h3;have hik:i≠k:=by
   intro hik;obtain ⟨_,ok',hok',hall'⟩:=mem_ready.1 hr;rw [hik,hk] at hok';obtain ⟨e,he,hb,hon⟩:=hki;cases hok';exact lE hiu (hon▸hall' e he hb)
  have hS':=h3.2.1 hjk (by rw [getD_set_ne true hik];exact hkl);refine ⟨fun _ _=>hS',ih _ a' w' ?_ (by rw [getD_set_ne true hjk];exact hkl) (ready_mono hr (Ne.symm hji)) h3.1 hS' ?_⟩
  . intro m om hm hmi hun hnm
    refine hfree m om hm hmi ?_ hnm
    by_cases hjm:j=m
    . rw [←hjm]
      exact hju
    rw [getD_set_ne true hjm] at hun;exact hun
  rw [Array.setIfInBounds_comm _ _ hji];exact h3.2.2
theorem bw.take {i:Nat} {oi:Oper} {v:Value} {n:Nat} {l:Array Bool} {a:Act} {w:World} {tl:List Oper} (hi':ops.toList.drop i=oi :: tl)
 (hki:((ops[k]?).map fun o=>o.after.any fun e=>Region.binds .any e&&e.on==i)=some true) (hs:Region.noSelect ops=true) (hf:Region.free .any ops l i=true) (hr:(Region.ready .any ops l).contains i=true)
 (hQ:∀c a w,Q (.panic c) (a.put oi.dst v) w->Q (.panic c) a w) (hy:YieldsIf P ops S oi v a) (hS:S w) (h:bw P ops Q S k n (l.setIfInBounds i true) (a.put oi.dst v) w) (hkl:l.getD k true=false:=by kernel_rfl):bw P ops Q S k (n+1) l a w:=by
 have hi:=gN hi';cases hk:ops[k]? with
 | none=>rw [hk] at hki;cases hki
 | some ok=>
  rw [hk] at hki;simp only [Option.map_some,Option.some.injEq,Array.any_eq_true',Bool.and_eq_true,beq_iff_eq] at hki
  exact bw.first hi hk hki (Region.noSelect_spec hs) hQ n l a w (Region.free_spec hi hf) hkl (by simpa using hr) hy hS h
theorem bw.one {i:Nat} {o:Oper} {n:Nat} {l:Array Bool} {a:Act} {w:World} {tl:List Oper} (hr:Region.ready .any ops l=[i]) (ho:ops.toList.drop i=o :: tl)
 (h:∀K':Act->World->Prop,Shut (∀a w,(i≠k->S w)->bw P ops Q S k n (l.setIfInBounds i true) a w->K' a w)->if Region.wanted o (yielded ops a.tmps)=true then Oper.wp P o a w K' Q else K' (a.put o.dst undef) w):bw P ops Q S k (n+1) l a w:=by
 constructor
 . intro h0
   rw [hr] at h0;simp at h0
 intro j hj;rw [hr] at hj;simp at hj
 rw [hj];exact wpOp_step (gN ho) (fun K' hK=>h K' (fun a w hS hW=>hK a w ⟨fun h _=>hS h,hW⟩))
theorem bw.late {i:Nat} {o:Oper} {n:Nat} {l:Array Bool} {a:Act} {w:World} {tl:List Oper} (hr:Region.ready .any ops l=[i]) (ho:ops.toList.drop i=o :: tl) (hl:l.getD k true=true)
 (h:∀K':Act->World->Prop,Shut (∀a w,bw P ops Q S k n (l.setIfInBounds i true) a w->K' a w)->if Region.wanted o (yielded ops a.tmps)=true then Oper.wp P o a w K' Q else K' (a.put o.dst undef) w):bw P ops Q S k (n+1) l a w:=by
 constructor
 . intro h0
   rw [hr] at h0;simp at h0
 intro j hj;rw [hr] at hj;simp at hj
 rw [hj];exact wpOp_step (gN ho) (fun K' hK=>h K' (fun a w hW=>hK a w ⟨fun _ h0=>(by rw [hl] at h0;cases h0),hW⟩))
theorem bw.two {i i':Nat} {o o':Oper} {n:Nat} {l:Array Bool} {a:Act} {w:World} {tl tl':List Oper} (hr:Region.ready .any ops l=[i,i']) (ho:ops.toList.drop i=o :: tl) (ho':ops.toList.drop i'=o' :: tl')
 (h:∀K':Act->World->Prop,Shut (∀a w,(i≠k->S w)->bw P ops Q S k n (l.setIfInBounds i true) a w->K' a w)->if Region.wanted o (yielded ops a.tmps)=true then Oper.wp P o a w K' Q else K' (a.put o.dst undef) w)
 (h':∀K':Act->World->Prop,Shut (∀a w,(i'≠k->S w)->bw P ops Q S k n (l.setIfInBounds i' true) a w->K' a w)->if Region.wanted o' (yielded ops a.tmps)=true then Oper.wp P o' a w K' Q else K' (a.put o'.dst undef) w):bw P ops Q S k (n+1) l a w:=by
 constructor
 . intro h0
   rw [hr] at h0;simp at h0
 intro j hj;rw [hr] at hj;simp only [List.mem_cons,List.not_mem_nil,or_false] at hj
 rcases hj with hj|hj
 . rw [hj]
   exact wpOp_step (gN ho) (fun K' hK=>h K' (fun a w hS hW=>hK a w ⟨fun h _=>hS h,hW⟩))
 rw [hj];exact wpOp_step (gN ho') (fun K' hK=>h' K' (fun a w hS hW=>hK a w ⟨fun h _=>hS h,hW⟩))
theorem bw.done {l:Array Bool} {a:Act} {w:World} (hr:Region.ready .any ops l=[]) (h:Q .normal a w):∀n,bw P ops Q S k n l a w
 | 0=>⟨hr,h⟩
 | _+1=>⟨fun _=>h,by rw [hr];simp⟩
end
theorem uH {id n s:Int} (h:pn id n s=false):iC id n s=⟨0,0,0,0,0,0,0,0,0,false,false⟩/\jc id n s=[]:=by
 unfold iC jc;rw [if_neg (by simp [h]),if_neg (by simp [h])];exact ⟨rfl,rfl⟩
theorem vD {id n s:Int} (h:pn id n s=true):iC id n s=⟨id,n,s,-1,0,0,0,0,-1,false,false⟩/\jc id n s=gp id n s n.toNat:=by
 unfold iC jc;rw [if_pos h,if_pos h];exact ⟨rfl,rfl⟩
theorem tt (id n:Int) (k i:Nat):oG id n (k:Int) i=(fD (dN (gl id n (k:Int) (i:Int))) k k,[],false,[]):=by unfold oG;rw [Int.toNat_natCast]
end Go.Proofs.YtejeekndbnpmoaaGreat
