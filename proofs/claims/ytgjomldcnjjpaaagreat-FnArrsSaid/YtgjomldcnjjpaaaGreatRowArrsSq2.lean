/-
 The walks of the laws' helpers that mark slices of slices of int, writes and disks, and ask whether the marks are held. Conditions: at most 2097152 elements in all, the marks between 0 and 16777216.
-/
import Derived.Test.YtgjomldcnjjpaaaGreatRowArrsSq1

set_option maxRecDepth 100000
set_option maxHeartbeats 8000000
set_option linter.unusedSimpArgs false

namespace Go.Proofs.YtgjomldcnjjpaaaGreat
open Go.RowKit

structure Ty where
 n:Nat
 D:Type
 rd:World->List Value->D->List Nat->Prop
 ow:World->List Value->D->List Nat->Prop
 owRd:∀{w vs d fp},ow w vs d fp->rd w vs d fp
 rdLen:∀{w vs d fp},rd w vs d fp->vs.length=n
 rdLt:∀{w vs d fp},rd w vs d fp->∀b∈fp,b<w.heap.size
 rdKept:∀{w w' vs d fp},rd w vs d fp->(∀b∈fp,w'.heap[b]?=w.heap[b]?)->w.heap.size<=w'.heap.size->rd w' vs d fp
 owKept:∀{w w' vs d fp},ow w vs d fp->(∀b∈fp,w'.heap[b]?=w.heap[b]?)->w.heap.size<=w'.heap.size->ow w' vs d fp
theorem dq {w w':World} {b:Nat} (h:w'.heap[b]?=w.heap[b]?) (off:Nat):w'.cell? ⟨b,off,none⟩=w.cell? ⟨b,off,none⟩:=World.cell?_of_block (w:=w) h
abbrev eT:Ty where
 n:=1
 D:=Int
 rd:=fun _ vs d fp=>vs=[.int .i64 d]/\fp=[]
 ow:=fun _ vs d fp=>vs=[.int .i64 d]/\fp=[]
 owRd:=fun h=>h
 rdLen:=fun h=>by rw [h.1];rfl
 rdLt:=fun h=>by rw [h.2];simp
 rdKept:=fun h _ _=>h
 owKept:=fun h _ _=>h
abbrev fU:Ty where
 n:=1
 D:=Bool
 rd:=fun _ vs d fp=>vs=[.bool d]/\fp=[]
 ow:=fun _ vs d fp=>vs=[.bool d]/\fp=[]
 owRd:=fun h=>h
 rdLen:=fun h=>by rw [h.1];rfl
 rdLt:=fun h=>by rw [h.2];simp
 rdKept:=fun h _ _=>h
 owKept:=fun h _ _=>h
abbrev er (t u:Ty):Ty where
 n:=t.n+u.n
 D:=t.D×u.D
 rd:=fun w vs d fp=>∃f1 f2,fp=f1++f2/\t.rd w (vs.take t.n) d.1 f1/\u.rd w (vs.drop t.n) d.2 f2/\vs.length=t.n+u.n
 ow:=fun w vs d fp=>∃f1 f2,fp=f1++f2/\t.ow w (vs.take t.n) d.1 f1/\u.ow w (vs.drop t.n) d.2 f2/\vs.length=t.n+u.n
 owRd:=fun ⟨f1,f2,h,h1,h2,h3⟩=>⟨f1,f2,h,t.owRd h1,u.owRd h2,h3⟩
 rdLen:=fun ⟨_,_,_,_,_,h3⟩=>h3
 rdLt:=fun ⟨f1,f2,h,h1,h2,_⟩ b hb=>by
  rw [h] at hb;rcases List.mem_append.1 hb with hb|hb
  . exact t.rdLt h1 b hb
  exact u.rdLt h2 b hb
 rdKept:=fun ⟨f1,f2,h,h1,h2,h3⟩ hk hs=>⟨f1,f2,h,t.rdKept h1 (fun b hb=>hk b (by rw [h];exact List.mem_append_left _ hb)) hs,u.rdKept h2 (fun b hb=>hk b (by rw [h];exact List.mem_append_right _ hb)) hs,h3⟩
 owKept:=fun ⟨f1,f2,h,h1,h2,h3⟩ hk hs=>⟨f1,f2,h,t.owKept h1 (fun b hb=>hk b (by rw [h];exact List.mem_append_left _ hb)) hs,u.owKept h2 (fun b hb=>hk b (by rw [h];exact List.mem_append_right _ hb)) hs,h3⟩
def rowRd (t:Ty) (w:World) (b off:Nat) (d:List t.D) (fps:List (List Nat)):Prop:=
 fps.length=d.length/\∀i x,d[i]?=some x->∃f cs,fps[i]?=some f/\t.rd w cs x f/\∀j,j<t.n->w.cell? ⟨b,off+(i*t.n+j),none⟩=cs[j]?
def rowOw (t:Ty) (w:World) (cur:List Value) (d:List t.D) (fps:List (List Nat)):Prop:=
 fps.length=d.length/\∀i x,d[i]?=some x->∃f,fps[i]?=some f/\t.ow w ((cur.drop (i*t.n)).take t.n) x f
abbrev ce (t:Ty) (E:TypeId):Ty where
 n:=1
 D:=List t.D
 rd:=fun w vs d fp=>∃a cap,vs=[.slice a d.length cap]/\d.length<=cap/\cap<=9223372036854775807 /\
  ((d.length=0/\fp=[]/\(a=none->cap=0))∨∃b off fps,a=some ⟨b,off,none⟩/\b<w.heap.size/\fp=b :: fps.flatten/\rowRd t w b off d fps)
 ow:=fun w vs d fp=>(vs=[.slice none 0 0]/\d=[]/\fp=[]) ∨
  ∃b cap cur fps,vs=[.slice (some ⟨b,0,none⟩) d.length cap]/\d.length<=cap/\cap<=9223372036854775807/\w.heap[b]?=some (.cells cur E (0,0))/\cur.size=cap*t.n/\fp=b :: fps.flatten/\rowOw t w cur.toList d fps
 owRd:=fun {w vs d fp} h=>by
  rcases h with ⟨h1,h2,h3⟩|⟨b,cap,cur,fps,h1,h2,h3,h4,h5,h6,h7,h8⟩
  . refine ⟨none,0,?_,?_,?_,.inl ⟨?_,h3,fun _=>rfl⟩⟩
    . rw [h1,h2];rfl
    . rw [h2];exact Nat.le_refl _
    . omega
    rw [h2];rfl
  refine ⟨_,cap,h1,h2,h3,.inr ⟨b,0,fps,rfl,(Array.getElem?_eq_some_iff.1 h4).1,h6,h7,fun i x hx=>?_⟩⟩
  obtain ⟨f,hf,ho⟩:=h8 i x hx;refine ⟨f,_,hf,t.owRd ho,fun j hj=>?_⟩
  rw [cell_of_row w b _ cur E (0,0) h4,List.getElem?_take,if_pos hj,List.getElem?_drop];simp
 rdLen:=fun ⟨_,_,h,_⟩=>by rw [h];rfl
 rdLt:=fun {w vs d fp} ⟨a,cap,h1,h2,h3,h4⟩ b hb=>by
  rcases h4 with ⟨_,h5,_⟩|⟨b',off,fps,_,h5,h6,h7,h8⟩
  . rw [h5] at hb;simp at hb
  rw [h6] at hb;rcases List.mem_cons.1 hb with rfl|hb
  . exact h5
  obtain ⟨f,hf,hbf⟩:=List.mem_flatten.1 hb;obtain ⟨i,hi⟩:=List.mem_iff_getElem?.1 hf;have hil:i<d.length:=by rw [←h7];exact (List.getElem?_eq_some_iff.1 hi).1
  obtain ⟨f',cs,hf',hrd,_⟩:=h8 i _ (List.getElem?_eq_getElem hil);rw [hi] at hf';simp at hf'
  subst hf';exact t.rdLt hrd b hbf
 rdKept:=fun {w w' vs d fp} ⟨a,cap,h1,h2,h3,h4⟩ hk hs=>by
  refine ⟨a,cap,h1,h2,h3,?_⟩
  rcases h4 with h4|⟨b,off,fps,h5,h6,h7,h8,h9⟩
  . exact .inl h4
  have hb:w'.heap[b]?=w.heap[b]?:=hk b (by rw [h7];exact List.mem_cons_self);refine .inr ⟨b,off,fps,h5,Nat.lt_of_lt_of_le h6 hs,h7,h8,fun i x hx=>?_⟩
  obtain ⟨f,cs,hf,hrd,hc⟩:=h9 i x hx;refine ⟨f,cs,hf,t.rdKept hrd (fun b' hb'=>hk b' ?_) hs,fun j hj=>?_⟩
  . rw [h7]
    exact List.mem_cons_of_mem _ (List.mem_flatten.2 ⟨f,List.mem_of_getElem? hf,hb'⟩)
  rw [dq hb,hc j hj]
 owKept:=fun {w w' vs d fp} h hk hs=>by
  rcases h with h|⟨b,cap,cur,fps,h1,h2,h3,h4,h5,h6,h7,h8⟩
  . exact .inl h
  refine .inr ⟨b,cap,cur,fps,h1,h2,h3,?_,h5,h6,h7,fun i x hx=>?_⟩
  . rw [hk b (by rw [h6];exact List.mem_cons_self)];exact h4
  obtain ⟨f,hf,ho⟩:=h8 i x hx;refine ⟨f,hf,t.owKept ho (fun b' hb'=>hk b' ?_) hs⟩
  rw [h6];exact List.mem_cons_of_mem _ (List.mem_flatten.2 ⟨f,List.mem_of_getElem? hf,hb'⟩)
def Ty.Rd (t:Ty) (w:World) (vs:List Value) (d:t.D):Prop:=∃fp,t.rd w vs d fp
def Ty.Own (t:Ty) (w:World) (lo hi:Nat) (vs:List Value) (d:t.D):Prop:=∃fp,t.ow w vs d fp/\fp.Nodup/\∀b∈fp,lo<=b/\b<hi
theorem Ty.Rd.below {t:Ty} {w w':World} {vs:List Value} {d:t.D} (h:t.Rd w vs d) (hb:Below w.heap.size w w'):t.Rd w' vs d:=by
 obtain ⟨fp,h⟩:=h;exact ⟨fp,t.rdKept h (fun b hb'=>hb.block b (t.rdLt h b hb')) hb.size⟩
theorem Ty.Rd.same {t:Ty} {w w':World} {vs:List Value} {d:t.D} (h:t.Rd w vs d) (hs:aP w w'):t.Rd w' vs d:=h.below (hs.below _)
theorem Ty.Rd.drew {t:Ty} {w:World} {vs:List Value} {d:t.D} (h:t.Rd w vs d):t.Rd w.drew vs d:=h.same ((aP.refl w).drew)
theorem Ty.Own.rd {t:Ty} {w:World} {lo hi:Nat} {vs:List Value} {d:t.D} (h:t.Own w lo hi vs d):t.Rd w vs d:=by
 obtain ⟨fp,h,_⟩:=h;exact ⟨fp,t.owRd h⟩
theorem Ty.Own.below {t:Ty} {w w':World} {lo hi:Nat} {vs:List Value} {d:t.D} (h:t.Own w lo hi vs d) (hb:Below w.heap.size w w'):t.Own w' lo hi vs d:=by
 obtain ⟨fp,h,hn,hr⟩:=h;exact ⟨fp,t.owKept h (fun b hb'=>hb.block b (t.rdLt (t.owRd h) b hb')) hb.size,hn,hr⟩
theorem Ty.Own.same {t:Ty} {w w':World} {lo hi:Nat} {vs:List Value} {d:t.D} (h:t.Own w lo hi vs d) (hs:aP w w'):t.Own w' lo hi vs d:=h.below (hs.below _)
theorem Ty.Own.but {t:Ty} {w w':World} {lo hi l h':Nat} {vs:List Value} {d:t.D} (h:t.Own w lo hi vs d) (hb:But l h' w w') (hd:hi<=l∨h'<=lo):t.Own w' lo hi vs d:=by
 obtain ⟨fp,h,hn,hr⟩:=h;exact ⟨fp,t.owKept h (fun b hb'=>hb.block b (t.rdLt (t.owRd h) b hb') (by have:=hr b hb';omega)) hb.size,hn,hr⟩
theorem Ty.Own.widen {t:Ty} {w:World} {lo hi lo' hi':Nat} {vs:List Value} {d:t.D} (h:t.Own w lo hi vs d) (h1:lo'<=lo) (h2:hi<=hi'):t.Own w lo' hi' vs d:=by
 obtain ⟨fp,h,hn,hr⟩:=h;exact ⟨fp,h,hn,fun b hb=>by have:=hr b hb;omega⟩
theorem aR {w:World} {a:Option Addr} {n cap:Nat} {E:TypeId} {zs:List Int} (h:(ce eT E).Rd w [.slice a n cap] zs):aJ .i64 w a zs/\zs.length=n/\n<=cap/\cap<=9223372036854775807:=by
 obtain ⟨fp,a',cap',hv,h2,h3,h4⟩:=h;simp only [List.cons.injEq,Value.slice.injEq,and_true] at hv
 obtain ⟨rfl,rfl,rfl⟩:=hv;refine ⟨?_,rfl,h2,h3⟩
 rcases h4 with ⟨h5,_⟩|⟨b,off,fps,rfl,h6,h7,h8,h9⟩
 . exact .inl (List.eq_nil_of_length_eq_zero h5)
 refine .inr ⟨b,off,rfl,h6,fun i hi=>?_⟩
 obtain ⟨f,cs,_,⟨hcs,_⟩,hc⟩:=h9 i _ (List.getElem?_eq_getElem hi);have:=hc 0 (by show 0<1;omega);rw [hcs] at this;have e:off+(i*eT.n+0)=off+i:=by show off+(i*1+0)=off+i;omega
 rw [e] at this;rw [this,List.getD_eq_getElem?_getD,List.getElem?_eq_getElem hi];rfl
theorem sK {w:World} {a:Option Addr} {cap:Nat} {E:TypeId} {zs:List Int} (h:aJ .i64 w a zs) (h1:zs.length<=cap) (h2:cap<=9223372036854775807) (hc0:a=none->cap=0):(ce eT E).Rd w [.slice a zs.length cap] zs:=by
 rcases h with rfl|⟨b,off,rfl,hlt,hc⟩
 . exact ⟨[],a,cap,rfl,h1,h2,.inl ⟨rfl,rfl,hc0⟩⟩
 by_cases h0:zs.length=0
 . exact ⟨[],_,cap,rfl,h1,h2,.inl ⟨h0,rfl,hc0⟩⟩
 refine ⟨b :: (zs.map fun _=>([]:List Nat)).flatten,_,cap,rfl,h1,h2,.inr ⟨b,off,zs.map fun _=>[],rfl,hlt,rfl,by simp,fun i x hx=>?_⟩⟩
 have hi:i<zs.length:=(List.getElem?_eq_some_iff.1 hx).1;refine ⟨[],[.int .i64 x],by rw [List.getElem?_map,hx];rfl,⟨rfl,rfl⟩,fun j hj=>?_⟩
 have hj0:j=0:=by have:j<1:=hj;omega
 subst hj0;have e:off+(i*eT.n+0)=off+i:=by show off+(i*1+0)=off+i;omega
 rw [e,hc i hi,List.getD_eq_getElem?_getD,hx];rfl
theorem aC {t:Ty} {E:TypeId} {w:World} {v:Value} {d:List t.D} (h:(ce t E).Rd w [v] d):∃a cap,v=.slice a d.length cap:=by
 obtain ⟨fp,a,cap,hv,_⟩:=h;exact ⟨a,cap,by simpa using hv⟩
theorem ag {t:Ty} {E:TypeId} {w:World} {a:Option Addr} {n cap:Nat} {d:List t.D} (h:(ce t E).Rd w [.slice a n cap] d):d.length=n/\n<=cap/\cap<=9223372036854775807:=by
 obtain ⟨fp,a',cap',hv,h2,h3,_⟩:=h;simp only [List.cons.injEq,Value.slice.injEq,and_true] at hv
 obtain ⟨rfl,rfl,rfl⟩:=hv;exact ⟨rfl,h2,h3⟩
theorem mX {t:Ty} {E:TypeId} {w:World} {n cap:Nat} {d:List t.D} (h:(ce t E).Rd w [.slice none n cap] d):n=0/\cap=0/\d=[]:=by
 obtain ⟨fp,a',cap',hv,h2,h3,h4⟩:=h;simp only [List.cons.injEq,Value.slice.injEq,and_true] at hv
 obtain ⟨rfl,rfl,rfl⟩:=hv;rcases h4 with ⟨h5,_,h6⟩|⟨b,off,fps,h5,_⟩
 . exact ⟨h5,h6 rfl,List.eq_nil_of_length_eq_zero h5⟩
 simp at h5
theorem hJ {t:Ty} {E:TypeId} {w:World} {a:Option Addr} {n cap:Nat} {d:List t.D} (ht:t.n=1) (h:(ce t E).Rd w [.slice a n cap] d):
 n=0∨∃b off,a=some ⟨b,off,none⟩/\b<w.heap.size/\∀i x,d[i]?=some x->∃v,w.cell? ⟨b,off+i,none⟩=some v/\t.Rd w [v] x:=by
 obtain ⟨fp,a',cap',hv,h2,h3,h4⟩:=h;simp only [List.cons.injEq,Value.slice.injEq,and_true] at hv
 obtain ⟨rfl,rfl,rfl⟩:=hv;rcases h4 with ⟨h5,_⟩|⟨b,off,fps,h5,h6,_,_,h9⟩
 . exact .inl h5
 refine .inr ⟨b,off,h5,h6,fun i x hx=>?_⟩
 obtain ⟨f,cs,_,hrd,hc⟩:=h9 i x hx;have hl:=t.rdLen hrd;rw [ht] at hl;match cs,hl with
 | [v],_=>
  refine ⟨v,?_,f,hrd⟩
  have:=hc 0 (by omega);rw [ht,Nat.mul_one,Nat.add_zero] at this;exact this
theorem cW {t:Ty} {E:TypeId} {w:World} {a:Option Addr} {n cap:Nat} {d:List t.D} (ht:t.n=2) (h:(ce t E).Rd w [.slice a n cap] d):
 n=0∨∃b off,a=some ⟨b,off,none⟩/\b<w.heap.size/\∀i x,d[i]?=some x->∃v0 v1,w.cell? ⟨b,off+i*2,none⟩=some v0/\w.cell? ⟨b,off+i*2+1,none⟩=some v1/\t.Rd w [v0,v1] x:=by
 obtain ⟨fp,a',cap',hv,h2,h3,h4⟩:=h;simp only [List.cons.injEq,Value.slice.injEq,and_true] at hv
 obtain ⟨rfl,rfl,rfl⟩:=hv;rcases h4 with ⟨h5,_⟩|⟨b,off,fps,h5,h6,_,_,h9⟩
 . exact .inl h5
 refine .inr ⟨b,off,h5,h6,fun i x hx=>?_⟩
 obtain ⟨f,cs,_,hrd,hc⟩:=h9 i x hx;have hl:=t.rdLen hrd;rw [ht] at hl;match cs,hl with
 | [v0,v1],_=>
  refine ⟨v0,v1,?_,?_,f,hrd⟩
  . have:=hc 0 (by omega)
    rw [ht,Nat.add_zero] at this;exact this
  have:=hc 1 (by omega);rw [ht,←Nat.add_assoc] at this;exact this
theorem mY {t u:Ty} {w:World} {vs us:List Value} {d:t.D×u.D} (ht:vs.length=t.n) (h:(er t u).Rd w (vs++us) d):t.Rd w vs d.1/\u.Rd w us d.2:=by
 obtain ⟨fp,f1,f2,_,h1,h2,_⟩:=h;rw [List.take_left' ht] at h1;rw [List.drop_left' ht] at h2;exact ⟨⟨f1,h1⟩,⟨f2,h2⟩⟩
def du (l:List Nat):Nat:=l.foldr (·+·) 0
theorem lk {l:List Nat} {j x:Nat} (h:l[j]?=some x):du (l.take (j+1))=du (l.take j)+x:=by
 induction l generalizing j with
 | nil=>simp at h
 | cons y l ih=>
  match j,h with
  | 0,h=>simp at h;subst h;simp [du]
  | j+1,h=>
   have:=ih (j:=j) (by simpa using h);simp only [List.take_succ_cons,du,List.foldr_cons] at *
   omega
theorem qr {l:List Nat} (j:Nat):du (l.take j)<=du l:=by
 induction l generalizing j with
 | nil=>simp [du]
 | cons y l ih=>
  match j with
  | 0=>simp [du]
  | j+1=>
   have:=ih j;simp only [List.take_succ_cons,du,List.foldr_cons] at *
   omega
theorem hU:∀(l:List (List Nat)) (j:Nat) (f:List Nat),l.flatten.Nodup->f.Nodup->(∀b∈f,b∉l.flatten)->(l.set j f).flatten.Nodup/\∀b∈(l.set j f).flatten,b∈f∨b∈l.flatten:=by
 intro l;induction l with
 | nil=>intro j f _ _ _;simp
 | cons x l ih=>
  intro j f hn hf hd;rw [List.flatten_cons,List.nodup_append] at hn;obtain ⟨h1,h2,h3⟩:=hn;match j with
  | 0=>
   rw [List.set_cons_zero,List.flatten_cons,List.nodup_append];refine ⟨⟨hf,h2,fun a ha b hb hab=>?_⟩,fun b hb=>?_⟩
   . subst hab
     exact hd a ha (by rw [List.flatten_cons];exact List.mem_append_right _ hb)
   rcases List.mem_append.1 hb with hb|hb
   . exact .inl hb
   exact .inr (by rw [List.flatten_cons];exact List.mem_append_right _ hb)
  | j+1=>
   obtain ⟨i1,i2⟩:=ih j f h2 hf (fun b hb hbl=>hd b hb (by rw [List.flatten_cons];exact List.mem_append_right _ hbl));rw [List.set_cons_succ,List.flatten_cons,List.nodup_append];refine ⟨⟨h1,i1,fun a ha b hb hab=>?_⟩,fun b hb=>?_⟩
   . subst hab
     rcases i2 a hb with hb|hb
     . exact hd a hb (by rw [List.flatten_cons];exact List.mem_append_left _ ha)
     exact h3 a ha a hb rfl
   rcases List.mem_append.1 hb with hb|hb
   . exact .inr (by rw [List.flatten_cons];exact List.mem_append_left _ hb)
   rcases i2 b hb with hb|hb
   . exact .inl hb
   exact .inr (by rw [List.flatten_cons];exact List.mem_append_right _ hb)
theorem vp {t:Ty} {E:TypeId} {w:World} {base g n:Nat} {zc:Array Value} {z:t.D} (h:w.ownsRow base E t.n (.slice (some ⟨g,0,none⟩) n n) n (madeCells zc (n*t.n)).toList) (hn:n<=9223372036854775807) (hz:zc.size=t.n)
 (hzo:∀w,t.ow w zc.toList z []):(ce t E).Own w base w.heap.size [.slice (some ⟨g,0,none⟩) n n] (List.replicate n z):=by
 rcases h.2 with ⟨h',_⟩|⟨g',cap,cur,h',hb,hg,hnc,hcm,hcs,htake⟩
 . simp at h'
 simp only [Value.slice.injEq,Option.some.injEq,Addr.mk.injEq,and_true,true_and] at h'
 obtain ⟨rfl,rfl⟩:=h';have hlt:g<w.heap.size:=(Array.getElem?_eq_some_iff.1 hg).1;have hfl:(List.replicate n ([]:List Nat)).flatten=[]:=by simp
 refine ⟨[g],.inr ⟨g,n,cur,List.replicate n [],by rw [List.length_replicate],by rw [List.length_replicate];exact Nat.le_refl _,hn,hg,hcs,by rw [hfl],by simp,fun i x hx=>?_⟩,by simp,by simp;omega⟩
 have hi:i<n:=by
  have:=(List.getElem?_eq_some_iff.1 hx).1;simpa using this
 rw [List.getElem?_replicate,if_pos hi] at hx;simp at hx
 subst hx;refine ⟨[],by rw [List.getElem?_replicate,if_pos hi],?_⟩
 have e:(cur.toList.drop (i*t.n)).take t.n=zc.toList:=by
  have hcur:cur.toList=(madeCells zc (n*t.n)).toList:=by
   rw [←htake,List.take_of_length_le];rw [Array.length_toList,hcs];exact Nat.le_refl _
  rw [hcur];apply List.ext_getElem?
  intro k;rw [List.getElem?_take];by_cases hk:k<t.n
  . have hik:i*t.n+k<n*t.n:=by
     have:(i+1)*t.n<=n*t.n:=Nat.mul_le_mul_right _ hi;rw [Nat.add_mul] at this;omega
    rw [if_pos hk,List.getElem?_drop,Array.getElem?_toList,Array.getElem?_toList];unfold madeCells;rw [Array.getElem?_map,Array.getElem?_eq_getElem (by simpa using hik),Array.getElem_range,Option.map_some,hz,Nat.mul_comm,Nat.mul_add_mod,Nat.mod_eq_of_lt hk];rw [Array.getElem?_eq_getElem (by omega)];simp [hz,hk]
  rw [if_neg hk,List.getElem?_eq_none];rw [Array.length_toList,hz];omega
 rw [e];exact hzo w
theorem eU {l:List (List Nat)} {j:Nat} {f:List Nat} (hn:l.flatten.Nodup) (hj:l[j]?=some f):f.Nodup/\(∀b∈f,b∈l.flatten)/\∀i g,l[i]?=some g->i≠j->∀b∈g,b∉f:=by
 have hmem:f∈l:=List.mem_of_getElem? hj;refine ⟨?_,fun b hb=>List.mem_flatten.2 ⟨f,hmem,hb⟩,?_⟩
 . exact hn.sublist (List.sublist_flatten_of_mem hmem)
 induction l generalizing j with
 | nil=>simp at hj
 | cons x l ih=>
  rw [List.flatten_cons,List.nodup_append] at hn;obtain ⟨_,h2,h3⟩:=hn;intro i g hi hij b hb hbf;match i,j,hi,hj,hij with
  | 0,0,_,_,hij=>exact hij rfl
  | 0,j+1,hi,hj,_=>
   simp at hi
   subst hi;exact h3 b hb b (List.mem_flatten.2 ⟨f,List.mem_of_getElem? (by simpa using hj),hbf⟩) rfl
  | i+1,0,hi,hj,_=>
   simp at hj
   subst hj;exact h3 b hbf b (List.mem_flatten.2 ⟨g,List.mem_of_getElem? (by simpa using hi),hb⟩) rfl
  | i+1,j+1,hi,hj,hij=>
   exact ih (j:=j) h2 (by simpa using hj) (List.mem_of_getElem? (by simpa using hj)) i g (by simpa using hi) (by omega) b hb hbf
theorem Ty.Own.rowShape {t:Ty} {E:TypeId} {w:World} {lo hi n cap:Nat} {a:Option Addr} {d:List t.D} (h:(ce t E).Own w lo hi [.slice a n cap] d):n=0∨∃g,a=some ⟨g,0,none⟩:=by
 obtain ⟨fp,h,_,_⟩:=h;rcases h with ⟨h1,_⟩|⟨b,cap',cur,fps,h1,_⟩
 . simp at h1
   exact .inl h1.2.1
 simp at h1
 exact .inr ⟨b,h1.1⟩
structure aA (fp:List Nat) (w w':World):Prop where
 os:w'.os=w.os
 tape:w'.tape=w.tape
 output:w'.output=w.output
 size:w.heap.size<=w'.heap.size
 block:∀k,k<w.heap.size->k∉fp->w'.heap[k]?=w.heap[k]?
theorem aA.refl (fp:List Nat) (w:World):aA fp w w:=⟨rfl,rfl,rfl,Nat.le_refl _,fun _ _ _=>rfl⟩
theorem aA.trans {fp:List Nat} {a b c:World} (h:aA fp a b) (k:aA fp b c):aA fp a c:=
 ⟨k.os.trans h.os,k.tape.trans h.tape,k.output.trans h.output,Nat.le_trans h.size k.size,fun i hi ho=>(k.block i (Nat.lt_of_lt_of_le hi h.size) ho).trans (h.block i hi ho)⟩
theorem aA.mono {fp fq:List Nat} {w w':World} (h:aA fp w w') (hs:∀b∈fp,b∈fq):aA fq w w':=
 ⟨h.os,h.tape,h.output,h.size,fun k hk ho=>h.block k hk (fun hm=>ho (hs k hm))⟩
theorem aA.but {fp:List Nat} {w w':World} {lo hi:Nat} (h:aA fp w w') (hs:∀b∈fp,lo<=b/\b<hi):But lo hi w w':=
 ⟨h.os,h.tape,h.output,h.size,fun k hk ho=>h.block k hk (fun hm=>by have:=hs k hm;omega)⟩
theorem aA.setCell {fp:List Nat} {w:World} {g j:Nat} (v:Value) (hg:g∈fp):aA fp w (w.setCell ⟨g,j,none⟩ v):=
 ⟨rfl,rfl,rfl,by simp [World.setCell],fun k _ hk=>Below.heap_setCell _ _ _ _ (by simp;exact fun e=>hk (e▸hg))⟩
theorem aP.turned {w w':World} (h:aP w w') (fp:List Nat):aA fp w w':=⟨h.os,h.tape,h.output,by rw [h.heap];exact Nat.le_refl _,fun _ _ _=>by rw [h.heap]⟩
def Ty.Mine (t:Ty) (w:World) (vs:List Value) (d:t.D) (fp:List Nat):Prop:=t.ow w vs d fp/\fp.Nodup
theorem Ty.Mine.rd {t:Ty} {w:World} {vs:List Value} {d:t.D} {fp:List Nat} (h:t.Mine w vs d fp):t.Rd w vs d:=⟨fp,t.owRd h.1⟩
theorem Ty.Mine.lt {t:Ty} {w:World} {vs:List Value} {d:t.D} {fp:List Nat} (h:t.Mine w vs d fp):∀b∈fp,b<w.heap.size:=t.rdLt (t.owRd h.1)
theorem Ty.Mine.kept {t:Ty} {w w':World} {vs:List Value} {d:t.D} {fp fq:List Nat} (h:t.Mine w vs d fp) (ht:aA fq w w') (hd:∀b∈fp,b∉fq):t.Mine w' vs d fp:=⟨t.owKept h.1 (fun b hb=>ht.block b (h.lt b hb) (hd b hb)) ht.size,h.2⟩
theorem Ty.Own.mine {t:Ty} {w:World} {lo hi:Nat} {vs:List Value} {d:t.D} (h:t.Own w lo hi vs d):∃fp,t.Mine w vs d fp/\∀b∈fp,lo<=b/\b<hi:=by
 obtain ⟨fp,h1,h2,h3⟩:=h;exact ⟨fp,⟨h1,h2⟩,h3⟩
theorem Ty.Mine.own {t:Ty} {w:World} {lo hi:Nat} {vs:List Value} {d:t.D} {fp:List Nat} (h:t.Mine w vs d fp) (hr:∀b∈fp,lo<=b/\b<hi):t.Own w lo hi vs d:=⟨fp,h.1,h.2,hr⟩
theorem eK {t u:Ty} {w:World} {vs us:List Value} {x:t.D} {y:u.D} {fp:List Nat} (ht:vs.length=t.n) (h:(er t u).Mine w (vs++us) (x,y) fp):∃f1 f2,fp=f1++f2/\t.Mine w vs x f1/\u.Mine w us y f2/\∀b∈f1,b∉f2:=by
 obtain ⟨⟨f1,f2,hf,h1,h2,_⟩,hn⟩:=h;rw [List.take_left' ht] at h1;rw [List.drop_left' ht] at h2;rw [hf,List.nodup_append] at hn;exact ⟨f1,f2,hf,⟨h1,hn.1⟩,⟨h2,hn.2.1⟩,fun b hb hb'=>hn.2.2 b hb b hb' rfl⟩
theorem gg {t u:Ty} {w:World} {vs us:List Value} {x:t.D} {y:u.D} {f1 f2:List Nat} (h1:t.Mine w vs x f1) (h2:u.Mine w us y f2) (hd:∀b∈f1,b∉f2):(er t u).Mine w (vs++us) (x,y) (f1++f2):=by
 have l1:=t.rdLen (t.owRd h1.1);have l2:=u.rdLen (u.owRd h2.1);refine ⟨⟨f1,f2,rfl,by rw [List.take_left' l1];exact h1.1,by rw [List.drop_left' l1];exact h2.1,by rw [List.length_append,l1,l2]⟩,?_⟩
 rw [List.nodup_append];exact ⟨h1.2,h2.2,fun a ha b hb e=>hd a ha (e▸hb)⟩
theorem rj {t:Ty} {E:TypeId} {w:World} {g n cap j:Nat} {d:List t.D} {x:t.D} {fp:List Nat} (hM:(ce t E).Mine w [.slice (some ⟨g,0,none⟩) n cap] d fp) (hx:d[j]?=some x):
 ∃cs f,t.Mine w cs x f/\g∉f/\g∈fp/\(∀b∈f,b∈fp)/\(∀k,k<t.n->w.cell? ⟨g,j*t.n+k,none⟩=cs[k]?)/\(∀k,w.frozen? ⟨g,k,none⟩=false) /\
  (∀w' x',t.Mine w' cs x' f->(∀b∈fp,b∉f->w'.heap[b]?=w.heap[b]?)->w.heap.size<=w'.heap.size->(ce t E).Mine w' [.slice (some ⟨g,0,none⟩) n cap] (d.set j x') fp) /\
  (∀w' cs' x',t.Mine w' cs' x' f->(∀b∈fp,b∉f->b≠g->w'.heap[b]?=w.heap[b]?)->w.heap.size<=w'.heap.size ->
   (∀cur,w.heap[g]?=some (.cells cur E (0,0))->cur.size=cap*t.n->n<=cap->∃cur',w'.heap[g]?=some (.cells cur' E (0,0))/\cur'.size=cur.size/\∀k,cur'.toList[k]?=if j*t.n<=k/\k<(j+1)*t.n then cs'[k-j*t.n]? else cur.toList[k]?) ->
   (ce t E).Mine w' [.slice (some ⟨g,0,none⟩) n cap] (d.set j x') fp):=by
 obtain ⟨h,hn⟩:=hM;have hN:=hn;rcases h with ⟨h1,_⟩|⟨b,cap',cur,fps,h1,h2,h3,h4,h5,h6,h7,h8⟩
 . simp at h1
 simp only [List.cons.injEq,Value.slice.injEq,Option.some.injEq,Addr.mk.injEq,and_true] at h1
 obtain ⟨rfl,rfl,rfl⟩:=h1;obtain ⟨f,hf,ho⟩:=h8 j x hx;rw [h6,List.nodup_cons] at hn;obtain ⟨hg,hnf⟩:=hn;obtain ⟨f1,f2,f3⟩:=eU hnf hf;have hgf:g∉f:=fun hm=>hg (f2 g hm);have hgp:g∈fp:=by rw [h6];exact List.mem_cons_self
 have hfp:∀b∈f,b∈fp:=fun b hb=>by rw [h6];exact List.mem_cons_of_mem _ (f2 b hb)
 have hjl:j<d.length:=(List.getElem?_eq_some_iff.1 hx).1;have hyx:∀x' y,(d.set j x')[j]?=some y->y=x':=fun x' y hy=>by
  rw [List.getElem?_set_self hjl] at hy;simpa using hy.symm
 have hin:∀i f',fps[i]?=some f'->∀b∈f',b∈fp/\b≠g:=fun i f' hf' b hb=>by
  have hm:b∈fps.flatten:=List.mem_flatten.2 ⟨f',List.mem_of_getElem? hf',hb⟩;exact ⟨by rw [h6];exact List.mem_cons_of_mem _ hm,fun e=>hg (e▸hm)⟩
 refine ⟨_,f,⟨ho,f1⟩,hgf,hgp,hfp,fun k hk=>?_,fun k=>frozen_of_row w g _ cur E h4,fun w' x' ho' hoth hsz=>?_,fun w' cs' x' ho' hoth hsz hnew=>?_⟩
 . rw [cell_of_row w g _ cur E (0,0) h4,List.getElem?_take,if_pos hk,List.getElem?_drop]
   simp
 . refine ⟨.inr ⟨g,cap,cur,fps,by rw [List.length_set],by rw [List.length_set];exact h2,h3,by rw [hoth g hgp hgf];exact h4,h5,h6,by rw [List.length_set];exact h7,fun i y hy=>?_⟩,hN⟩
   by_cases hij:i=j
   . subst hij
     rw [hyx x' y hy];exact ⟨f,hf,ho'.1⟩
   rw [List.getElem?_set_ne (fun e=>hij e.symm)] at hy;obtain ⟨f',hf',ho2⟩:=h8 i y hy;exact ⟨f',hf',t.owKept ho2 (fun b hb=>hoth b (hin i f' hf' b hb).1 (f3 i f' hf' hij b hb)) hsz⟩
 obtain ⟨cur',hc1,hc2,hc3⟩:=hnew cur h4 h5 h2;have hvl:=t.rdLen (t.owRd ho'.1);have hpart:∀i,((cur'.toList.drop (i*t.n)).take t.n)=if i=j then cs' else (cur.toList.drop (i*t.n)).take t.n:=by
  intro i;apply List.ext_getElem?
  intro k;rw [List.getElem?_take,List.getElem?_drop,hc3];by_cases hk:k<t.n
  . rw [if_pos hk]
    by_cases hij:i=j
    . subst hij
      rw [if_pos rfl,if_pos (by rw [Nat.add_mul];omega),Nat.add_sub_cancel_left]
    rw [if_neg hij,List.getElem?_take,if_pos hk,List.getElem?_drop,if_neg];intro hh;rcases Nat.lt_or_gt_of_ne hij with hlt|hgt
    . have:(i+1)*t.n<=j*t.n:=Nat.mul_le_mul_right _ hlt
      rw [Nat.add_mul] at this;omega
    have:(j+1)*t.n<=i*t.n:=Nat.mul_le_mul_right _ hgt;omega
  rw [if_neg hk];by_cases hij:i=j
  . rw [if_pos hij,List.getElem?_eq_none (by omega)]
  rw [if_neg hij,List.getElem?_take,if_neg hk]
 refine ⟨.inr ⟨g,cap,cur',fps,by rw [List.length_set],by rw [List.length_set];exact h2,h3,hc1,by rw [hc2];exact h5,h6,by rw [List.length_set];exact h7,fun i y hy=>?_⟩,hN⟩
 rw [hpart i];by_cases hij:i=j
 . subst hij
   rw [if_pos rfl,hyx x' y hy];exact ⟨f,hf,ho'.1⟩
 rw [if_neg hij];rw [List.getElem?_set_ne (fun e=>hij e.symm)] at hy;obtain ⟨f',hf',ho2⟩:=h8 i y hy;exact ⟨f',hf',t.owKept ho2 (fun b hb=>hoth b (hin i f' hf' b hb).1 (f3 i f' hf' hij b hb) (hin i f' hf' b hb).2) hsz⟩
theorem qu {t:Ty} {E:TypeId} {w:World} {n cap:Nat} {a:Option Addr} {d:List t.D} {fp:List Nat} (h:(ce t E).Mine w [.slice a n cap] d fp):n=0∨∃g,a=some ⟨g,0,none⟩:=by
 rcases h.1 with ⟨h1,_⟩|⟨b,cap',cur,fps,h1,_⟩
 . simp at h1
   exact .inl h1.2.1
 simp at h1
 exact .inr ⟨b,h1.1⟩
abbrev aD:Ty:=ce eT 3
abbrev aU:Ty:=ce aD 42
def cA (d:List (List Int)):Nat:=d.length+du (d.map List.length)
abbrev tWr:Ty:=er eT aD
abbrev aW (E:TypeId):Ty:=ce tWr E
def aX (d:List (Int×List Int)):Nat:=d.length+du (d.map fun x=>x.2.length)
theorem eL {w:World} {v0 v1:Value} {d:Int×List Int} (h:tWr.Rd w [v0,v1] d):v0=.int .i64 d.1/\aD.Rd w [v1] d.2:=by
 obtain ⟨⟨_,h1,_⟩,h2⟩:=mY (t:=eT) (u:=aD) (vs:=[v0]) (us:=[v1]) rfl h;exact ⟨by simpa using h1,h2⟩
abbrev cu (E:TypeId):Ty:=er aU (er (aW E) (er fU aD))
def aM (d:List (List Int)×List (Int×List Int)×Bool×List Int):Nat:=cA d.1+aX d.2.1+d.2.2.2.length
theorem qv {w:World} {E:TypeId} {v0 v1 v2 v3:Value} {d:(cu E).D} (h:(cu E).Rd w [v0,v1,v2,v3] d):
 ∃a0 c0 a1 c1 a3 c3,v0=.slice a0 d.1.length c0/\v1=.slice a1 d.2.1.length c1/\v2=.bool d.2.2.1/\v3=.slice a3 d.2.2.2.length c3 /\
  aU.Rd w [.slice a0 d.1.length c0] d.1/\(aW E).Rd w [.slice a1 d.2.1.length c1] d.2.1/\aD.Rd w [.slice a3 d.2.2.2.length c3] d.2.2.2:=by
 obtain ⟨h0,h⟩:=mY (t:=aU) (vs:=[v0]) (us:=[v1,v2,v3]) rfl h;obtain ⟨h1,h⟩:=mY (t:=aW E) (vs:=[v1]) (us:=[v2,v3]) rfl h;obtain ⟨⟨_,h2,_⟩,h3⟩:=mY (t:=fU) (vs:=[v2]) (us:=[v3]) rfl h;obtain ⟨a0,c0,rfl⟩:=aC h0;obtain ⟨a1,c1,rfl⟩:=aC h1;obtain ⟨a3,c3,rfl⟩:=aC h3;exact ⟨a0,c0,a1,c1,a3,c3,rfl,rfl,by simpa using h2,rfl,h0,h1,h3⟩
theorem eN {w:World} {E:TypeId} {lo hi:Nat} {v0 v1 v3:Value} {f:Bool} {ss:List (List Int)} {cs:List (Int×List Int)} {bs:List Int} (h:(cu E).Own w lo hi [v0,v1,.bool f,v3] (ss,cs,f,bs)):
 aU.Rd w [v0] ss/\(aW E).Rd w [v1] cs/\aD.Rd w [v3] bs:=by
 obtain ⟨a0,c0,a1,c1,a3,c3,rfl,rfl,_,rfl,h0,h1,h3⟩:=qv h.rd;exact ⟨h0,h1,h3⟩
theorem aS {w:World} {lo:Nat} {v:Value} {zs:List Int} (h:bk .i64 3 w lo v zs):aD.Own w lo w.heap.size [v] zs:=by
 have hlt:=h.own;rcases h.2 with ⟨hv,hn⟩|⟨g,cap,cur,hv,hb,hg,hnc,hcm,hcs,ht⟩
 . exact ⟨[],.inl ⟨by rw [hv],List.eq_nil_of_length_eq_zero hn,rfl⟩,by simp,by simp⟩
 have hgl:g<w.heap.size:=(Array.getElem?_eq_some_iff.1 hg).1;refine ⟨[g],.inr ⟨g,cap,cur,zs.map fun _=>[],by rw [hv],hnc,hcm,hg,hcs,by simp,by simp,fun i x hx=>?_⟩,by simp,by simp;omega⟩
 have hi:i<zs.length:=(List.getElem?_eq_some_iff.1 hx).1;refine ⟨[],by rw [List.getElem?_map,hx];rfl,?_,rfl⟩
 have e:cur.toList[i]?=some (.int .i64 x):=by
  have:(cur.toList.take (zs.length*1))[i]?=(zs.map (Value.int .i64))[i]?:=by rw [ht]
  rw [List.getElem?_take,if_pos (by omega),List.getElem?_map,hx] at this;exact this
 have hic:i<cur.toList.length:=(List.getElem?_eq_some_iff.1 e).1;show (cur.toList.drop (i*1)).take 1=_
 rw [Nat.mul_one,List.drop_eq_getElem_cons hic,List.take_succ_cons,List.take_zero];rw [List.getElem?_eq_getElem hic] at e;simp at e
 rw [Array.getElem_toList,e]
theorem Tryz.infoIntS:(Tryz.prog.info? 42).map (fun i=>(i.zero,i.size,i.bytes))=some (some (.slice none 0 0),1,24):=by kernel_rfl
theorem Tryz.infoWr:(Tryz.prog.info? 119).map (fun i=>(i.zero,i.size,i.bytes))=some (some (.agg #[.int .i64 0,.slice none 0 0]),2,32):=by kernel_rfl
theorem eZ {d:List (List Int)} {j:Nat} {x:List Int} (h:d[j]?=some x):x.length<=cA d:=by
 have h1:=lk (l:=d.map List.length) (j:=j) (x:=x.length) (by rw [List.getElem?_map,h];rfl);have h2:=qr (l:=d.map List.length) (j+1);unfold cA;omega
theorem cK {d:List (Int×List Int)} {j:Nat} {x:Int×List Int} (h:d[j]?=some x):x.2.length<=aX d:=by
 have h1:=lk (l:=d.map fun x=>x.2.length) (j:=j) (x:=x.2.length) (by rw [List.getElem?_map,h];rfl);have h2:=qr (l:=d.map fun x=>x.2.length) (j+1);unfold aX;omega
theorem bS {t:Ty} {E:TypeId} (w:World) (lo hi:Nat):(ce t E).Own w lo hi [.slice none 0 0] []:=⟨[],.inl ⟨rfl,rfl,rfl⟩,by simp,by simp⟩
theorem bP (w:World) (a:Option Addr) (n cap:Nat) (zs:List Int) (h:aD.Rd w [.slice a n cap] zs) (hn:n<=2097152):
 Calls Tryz.prog 88 #[.slice a n cap] w fun e w'=>∃a' c',e=.returned (.slice a' n c')/\aD.Own w' w.heap.size w'.heap.size [.slice a' n c'] zs/\Below w.heap.size w w':=by
 obtain ⟨i0,hi,hz0,hz1,hz2⟩:=info_parts Tryz.info3;obtain ⟨hr,hl,_,_⟩:=aR h;have hA:Below w.heap.size w (w.alloc (.cells #[] 3)):=(Below.refl _ _).alloc (Nat.le_refl _) _;have hO:bk .i64 3 (w.alloc (.cells #[] 3)) w.heap.size (.slice (some ⟨w.heap.size,0,none⟩) 0 0) []:=bk.lit .i64 3 w [] 0 #[] rfl rfl (by unfold maxLen;omega);match a,h,hr with
 | none,h,_=>
  obtain ⟨rfl,rfl,rfl⟩:=mX h;go_enter Tryz.func88,Tryz.ntmps88
  go_wp2_with (at_builtin;refine wpList_append_own_none rfl _ _ 42 rfl w.heap.size 3 i0 1 Tryz.underlying42 hi _ 0 [] rfl hO rfl ?_)
  go_ret
  exact ⟨_,_,rfl,aS hO,hA⟩
 | some ad,_,hr=>
  have hr1:=hr.below hA;go_enter Tryz.func88,Tryz.ntmps88
  go_wp2_with (at_builtin;refine dt .i64 rfl _ _ 42 rfl w.heap.size 3 i0 (.int .i64 0) 8 Tryz.underlying42 hi hz0 hz1 hz2 rfl _ [] rfl hO ad n cap zs rfl hl hr1 (by unfold maxLen;simp;omega) (by simp;omega) (by simp) ?_;intro v' w1 ho1 hb1;obtain ⟨a1,c1,hv1,_⟩:=ho1.shape;rw [List.nil_append,hl] at hv1;rw [List.nil_append] at ho1;subst hv1)
  go_ret
  exact ⟨_,_,rfl,aS ho1,hA.trans hb1⟩
end Go.Proofs.YtgjomldcnjjpaaaGreat
