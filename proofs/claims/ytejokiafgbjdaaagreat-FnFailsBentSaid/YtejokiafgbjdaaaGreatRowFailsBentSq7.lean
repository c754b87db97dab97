/-
 Numbers that are drawn beside an array (l11Disk, l8Block): any number, the cursor moves. Condition: at most 2097152 bytes to draw from.
-/
import Derived.Test.YtejokiafgbjdaaaGreatRowFailsBentSq2
import Derived.Test.YtejokiafgbjdaaaGreatRowFailsBentSq3

set_option maxRecDepth 100000
set_option maxHeartbeats 8000000
set_option linter.unusedSimpArgs false

namespace Go.Proofs.YtejokiafgbjdaaaGreat
open Go.RowKit

def fh (x:Int):Int:=if 0<=x then 2+x % 4 else -1
def bp (x:Int):Int:=if 0<=x/\x<=1099511627776 then x+6 else -1
theorem lP (w:World) (x:Int):Calls Tryz.prog 223 #[.int .i64 x] w fun e w'=>e=.returned (.int .i64 (fh x))/\w'=w:=by
 by_cases h:0<=x
 . have e1:x.tmod 4=x % 4:=Int.tmod_eq_emod_of_nonneg h
   have e2:IntKind.i64.wrap (x % 4)=x % 4:=IntWalk.i64_in _ (by omega);have e3:IntKind.i64.wrap (2+x % 4)=2+x % 4:=IntWalk.i64_in _ (by omega);have hv:fh x=2+x % 4:=by unfold fh;rw [if_pos h]
   go_enter Tryz.func223,Tryz.ntmps223
   go_wp2
   go_ret
   exact ⟨aP (by first|(rw [hv];done)|rfl|omega),rfl⟩
 have hv:fh x=-1:=by unfold fh;rw [if_neg h]
 go_enter Tryz.func223,Tryz.ntmps223
 go_wp2
 go_ret
 exact ⟨aP (by first|(rw [hv];done)|rfl|omega),rfl⟩
theorem fM (w:World) (x:Int):Calls Tryz.prog 83 #[.int .i64 x] w fun e w'=>e=.returned (.int .i64 (bp x))/\w'=w:=by
 by_cases h:0<=x/\x<=1099511627776
 . have e2:IntKind.i64.wrap (x+2)=x+2:=IntWalk.i64_in _ (by omega)
   have e4:IntKind.i64.wrap (x+2+4)=x+2+4:=IntWalk.i64_in _ (by omega);have e3:IntKind.i64.wrap (6+x)=6+x:=IntWalk.i64_in _ (by omega);have hv:bp x=x+6:=by unfold bp;rw [if_pos h]
   have hi:inB x 0 1099511627776=true:=by unfold inB;simp;omega
   go_enter Tryz.func83,Tryz.ntmps83
   go_wp2_with fail
   refine (bL _ _ _ _).mono ?_
   rintro e w1 ⟨rfl,rfl⟩;rw [hi];go_wp2
   go_ret
   exact ⟨aP (by rw [hv];omega),rfl⟩
 have hv:bp x=-1:=by unfold bp;rw [if_neg h]
 have hi:inB x 0 1099511627776=false:=by unfold inB;simp;omega
 go_enter Tryz.func83,Tryz.ntmps83
 go_wp2_with fail
 refine (bL _ _ _ _).mono ?_
 rintro e w1 ⟨rfl,rfl⟩;rw [hi];go_wp2
 go_ret
 exact ⟨aP (by first|(rw [hv];done)|rfl|omega),rfl⟩
theorem aV (w:World) (x:Int):Calls Tryz.prog 85 #[.int .i64 x] w fun e w'=>e=.returned (.int .i64 (bp x))/\w'=w:=by
 by_cases h:0<=x/\x<=1099511627776
 . have e2:IntKind.i64.wrap (x+2)=x+2:=IntWalk.i64_in _ (by omega)
   have e4:IntKind.i64.wrap (x+2+4)=x+2+4:=IntWalk.i64_in _ (by omega);have e3:IntKind.i64.wrap (6+x)=6+x:=IntWalk.i64_in _ (by omega);have hv:bp x=x+6:=by unfold bp;rw [if_pos h]
   have hi:inB x 0 1099511627776=true:=by unfold inB;simp;omega
   go_enter Tryz.func85,Tryz.ntmps85
   go_wp2_with fail
   refine (aB _ _ _ _).mono ?_
   rintro e w1 ⟨rfl,rfl⟩;rw [hi];go_wp2
   go_ret
   exact ⟨aP (by rw [hv];omega),rfl⟩
 have hv:bp x=-1:=by unfold bp;rw [if_neg h]
 have hi:inB x 0 1099511627776=false:=by unfold inB;simp;omega
 go_enter Tryz.func85,Tryz.ntmps85
 go_wp2_with fail
 refine (aB _ _ _ _).mono ?_
 rintro e w1 ⟨rfl,rfl⟩;rw [hi];go_wp2
 go_ret
 exact ⟨aP (by first|(rw [hv];done)|rfl|omega),rfl⟩
def iG (t:Ty) (w:World) (vs:List Value) (ys:List t.D) (fs:List (List Nat)):Prop:=
 vs.length=ys.length*t.n/\fs.length=ys.length/\fs.flatten.Nodup/\∀i y,ys[i]?=some y->∃f,fs[i]?=some f/\t.ow w ((vs.drop (i*t.n)).take t.n) y f
theorem iG.lt {t:Ty} {w:World} {vs:List Value} {ys:List t.D} {fs:List (List Nat)} (h:iG t w vs ys fs):∀c∈fs.flatten,c<w.heap.size:=by
 intro c hc;obtain ⟨_,h7,_,h8⟩:=h;obtain ⟨f',hf',hcf⟩:=List.mem_flatten.1 hc;obtain ⟨i,hi⟩:=List.mem_iff_getElem?.1 hf';have hil:i<ys.length:=by rw [←h7];exact (List.getElem?_eq_some_iff.1 hi).1
 obtain ⟨f2,hf2,ho2⟩:=h8 i _ (List.getElem?_eq_getElem hil);rw [hi] at hf2;simp at hf2
 subst hf2;exact t.rdLt (t.owRd ho2) c hcf
theorem qp {t:Ty} {E:TypeId} {w:World} {lo b cap:Nat} {d:List t.D} {fp:List Nat} (h:(bH t E).Mine w [.slice (some ⟨b,0,none⟩) d.length cap] d fp) (hlo:∀b∈fp,lo<=b):
 ∃xs,w.ownsRow lo E t.n (.slice (some ⟨b,0,none⟩) d.length cap) d.length xs/\∀w' v' vs ys fs,iG t w vs ys fs->(∀b∈fp,b∉fs.flatten)->w'.ownsRow lo E t.n v' (d.length+ys.length) (xs++vs)->w.grownBy w' (some b)->(v'.ownBlock=some b∨v'.ownBlock=some w.heap.size) ->
  ∃fp',(bH t E).Mine w' [v'] (d++ys) fp'/\(∀c∈fp',c∈fp∨c∈fs.flatten∨(c=w.heap.size/\c<w'.heap.size))/\aq fp w w':=by
 obtain ⟨h,hn⟩:=h;rcases h with ⟨h1,_⟩|⟨b',cap',cur,fps,h1,h2,h3,h4,h5,rfl,h7,h8⟩
 . simp at h1
 simp only [List.cons.injEq,Value.slice.injEq,Option.some.injEq,Addr.mk.injEq,and_true] at h1
 obtain ⟨rfl,_,rfl⟩:=h1;have hle:d.length*t.n<=cap*t.n:=Nat.mul_le_mul_right _ h2;have hxl:(cur.toList.take (d.length*t.n)).length=d.length*t.n:=by
  have hcl:cur.toList.length=cap*t.n:=by rw [Array.length_toList];exact h5
  rw [List.length_take,hcl];omega
 refine ⟨cur.toList.take (d.length*t.n),⟨hxl,.inr ⟨b,cap,cur,rfl,hlo b List.mem_cons_self,h4,h2,h3,h5,rfl⟩⟩,fun w' v' vs ys fs hx hdis ho hg hat=>?_⟩
 have hel:=hx.lt;obtain ⟨e1,e2,e3,e4⟩:=hx;rw [List.nodup_cons] at hn;obtain ⟨hbf,hnf⟩:=hn;have hfplt:∀c∈fps.flatten,c<w.heap.size:=by
  intro c hc;obtain ⟨f',hf',hcf⟩:=List.mem_flatten.1 hc;obtain ⟨i,hi⟩:=List.mem_iff_getElem?.1 hf';have hil:i<d.length:=by rw [←h7];exact (List.getElem?_eq_some_iff.1 hi).1
  obtain ⟨f2,hf2,ho2⟩:=h8 i _ (List.getElem?_eq_getElem hil);rw [hi] at hf2;simp at hf2
  subst hf2;exact t.rdLt (t.owRd ho2) c hcf
 have hbx:b∉fs.flatten:=hdis b List.mem_cons_self;have hkeep:∀c,c<w.heap.size->c≠b->w'.heap[c]?=w.heap[c]?:=fun c hc hne=>hg.block c hc (by simpa using hne);rcases ho.2 with ⟨hv0,h0⟩|⟨g,cap',cur',hv',hb,hg',hnc,hcm,hcs,htake⟩
 . have hd0:d=[]:=List.eq_nil_of_length_eq_zero (by omega)
   have hy0:ys=[]:=List.eq_nil_of_length_eq_zero (by omega);subst hd0 hy0 hv0;exact ⟨[],⟨.inl ⟨rfl,rfl,rfl⟩,List.nodup_nil⟩,by simp,hg.os,hg.tape,hg.output,hg.size,fun k hk hf=>hkeep k hk (fun e=>hf (by rw [e];exact List.mem_cons_self))⟩
 have hgs:g=b∨g=w.heap.size:=by
  rw [hv'] at hat;simpa [Value.ownBlock] using hat
 have hgl:g<w'.heap.size:=(Array.getElem?_eq_some_iff.1 hg').1;subst hv';have hfl:(fps++fs).flatten=fps.flatten++fs.flatten:=by simp
 have hcell:∀k,k<d.length*t.n+ys.length*t.n->cur'.toList[k]?=(cur.toList.take (d.length*t.n)++vs)[k]?:=fun k hk=>by
  have:=congrArg (fun l=>l[k]?) htake;simp only [List.getElem?_take] at this
  rw [if_pos (by rw [Nat.add_mul];omega)] at this;exact this
 have hseg:∀i,i<d.length->(cur'.toList.drop (i*t.n)).take t.n=(cur.toList.drop (i*t.n)).take t.n:=by
  intro i hi;have hmul:(i+1)*t.n<=d.length*t.n:=Nat.mul_le_mul_right _ hi;rw [Nat.add_mul,Nat.one_mul] at hmul;apply List.ext_getElem?
  intro k;rw [List.getElem?_take,List.getElem?_take];by_cases hk:k<t.n
  . rw [if_pos hk,if_pos hk,List.getElem?_drop,List.getElem?_drop,hcell _ (by omega),List.getElem?_append_left (by rw [hxl];omega),List.getElem?_take,if_pos (by omega)]
  rw [if_neg hk,if_neg hk]
 have hnew:∀i,i<ys.length->(cur'.toList.drop ((d.length+i)*t.n)).take t.n=(vs.drop (i*t.n)).take t.n:=by
  intro i hi;have hmul:(i+1)*t.n<=ys.length*t.n:=Nat.mul_le_mul_right _ hi;rw [Nat.add_mul,Nat.one_mul] at hmul;apply List.ext_getElem?
  intro k;rw [List.getElem?_take,List.getElem?_take];by_cases hk:k<t.n
  . rw [if_pos hk,if_pos hk,List.getElem?_drop,List.getElem?_drop,Nat.add_mul,hcell _ (by omega),List.getElem?_append_right (by rw [hxl];omega),hxl]
    congr 1
    omega
  rw [if_neg hk,if_neg hk]
 refine ⟨g :: (fps++fs).flatten,⟨.inr ⟨g,cap',cur',fps++fs,by simp,by simpa using hnc,hcm,hg',hcs,rfl,by simp [h7,e2],fun i y hy=>?_⟩,?_⟩,?_,hg.os,hg.tape,hg.output,hg.size,fun k hk hf=>hkeep k hk (fun e=>hf (by rw [e];exact List.mem_cons_self))⟩
 . by_cases hi:i<d.length
   . rw [List.getElem?_append_left hi] at hy
     obtain ⟨f2,hf2,ho2⟩:=h8 i y hy;refine ⟨f2,by rw [List.getElem?_append_left (by omega)];exact hf2,?_⟩
     rw [hseg i hi];refine t.owKept ho2 (fun c hc=>hkeep c (t.rdLt (t.owRd ho2) c hc) (fun e=>hbf ?_)) hg.size
     rw [←e];exact List.mem_flatten.2 ⟨f2,List.mem_of_getElem? hf2,hc⟩
   rw [List.getElem?_append_right (by omega)] at hy;have hil:=(List.getElem?_eq_some_iff.1 hy).1;obtain ⟨f2,hf2,ho2⟩:=e4 (i-d.length) y hy;refine ⟨f2,by rw [List.getElem?_append_right (by omega),h7];exact hf2,?_⟩
   have:=hnew (i-d.length) hil;rw [show d.length+(i-d.length)=i by omega] at this;rw [this];refine t.owKept ho2 (fun c hc=>?_) hg.size
   have hcm':c∈fs.flatten:=List.mem_flatten.2 ⟨f2,List.mem_of_getElem? hf2,hc⟩;exact hkeep c (hel c hcm') (fun e=>hbx (e▸hcm'))
 . rw [hfl,List.nodup_cons]
   refine ⟨fun hm=>?_,?_⟩
   . rcases List.mem_append.1 hm with hm|hm
     . rcases hgs with rfl|rfl
       . exact hbf hm
       have:=hfplt _ hm;omega
     rcases hgs with rfl|rfl
     . exact hbx hm
     have:=hel _ hm;omega
   rw [List.nodup_append];exact ⟨hnf,e3,fun a ha c hc e=>hdis a (List.mem_cons_of_mem _ ha) (e▸hc)⟩
 intro c hc;rw [hfl] at hc;rcases List.mem_cons.1 hc with rfl|hc
 . rcases hgs with rfl|hgs
   . exact .inl List.mem_cons_self
   exact .inr (.inr ⟨hgs,hgl⟩)
 rcases List.mem_append.1 hc with hc|hc
 . exact .inl (List.mem_cons_of_mem _ hc)
 exact .inr (.inl hc)
theorem nx {P:Program} {w:World} {ops:Array Oper} {o:Oper} {a:Act} {K:Act->World->Prop} {Q:Exit->Act->World->Prop} {G:Prop} (t:Ty) (hgd:o.guard=none) (s x:Operand) (T:TypeId)
 (ho:o.op=.call { callee:=.builtin .append,args:=#[s,x],argTypes:=#[T,T] })
 (E:TypeId) (i:TypeInfo) (z:Value) (bytes:Nat) (ht:P.underlying T=some (.slice E)) (hi:P.info? E=some i) (hz:i.zero=some z)
 (hsize:i.size=t.n) (hby:i.bytes=bytes) (hzs:z.cells.size=t.n) (hsz:0<t.n)
 (b cap:Nat) (d:List t.D) (fp:List Nat) (hs:a.eval s=.slice (some ⟨b,0,none⟩) d.length cap) (hown:(bH t E).Mine w [.slice (some ⟨b,0,none⟩) d.length cap] d fp)
 (ad:Addr) (c:Nat) (vs:List Value) (ys:List t.D) (fs:List (List Nat)) (hx:a.eval x=.slice (some ad) ys.length c) (hy:iG t w vs ys fs) (hdis:∀b∈fp,b∉fs.flatten) (hr:∀j u,vs[j]?=some u->w.cell? (ad.add j)=some u) (h1:∀u∈vs,u.oneCell'=true)
 (h63:d.length+ys.length<=maxLen) (hbytes:(d.length+ys.length)*bytes<=140737488355328)
 (h:∀g cap' w' fp',(bH t E).Mine w' [.slice (some ⟨g,0,none⟩) (d.length+ys.length) cap'] (d++ys) fp'->(∀b∈fp',b∈fp∨b∈fs.flatten∨(b=w.heap.size/\b<w'.heap.size))->aq fp w w'->K (a.put o.dst (.slice (some ⟨g,0,none⟩) (d.length+ys.length) cap')) w'):
 if Region.wanted o (yielded ops a.tmps)=true then Oper.wp P o a w K Q else G:=by
 obtain ⟨xs,hrow,hback⟩:=qp (lo:=0) hown (fun _ _=>Nat.zero_le _);have hw:Region.wanted o (yielded ops a.tmps)=true:=by simp [Region.wanted,hgd]
 rw [if_pos hw];obtain ⟨v',w',hr,k1,k2,k3,k4⟩:=run_append_own_at (P:=P) w 0 T o.type E i z t.n bytes ht hi hz hsize hby hzs hsz _ d.length xs hrow ad ys.length c vs hy.1 hr h1 h63 hbytes (Nat.zero_le _);obtain ⟨fp',m1,m2,m3⟩:=hback w' v' vs ys fs hy hdis k1 k2 k4;rcases k1.2 with ⟨hv0,_⟩|⟨g,cap',_,hv',_⟩
 . simp at k3
   exact absurd hv0 k3
 subst hv';unfold Oper.wp execOp;simp only [ho,resolve,invoke,builtin,Sem.run_bind,Sem.run_pure,Result.andThen_ok,List.map_toArray,List.map_cons,List.map_nil,hs,hx,hr]
 exact h g cap' w' fp' m1 m2 m3
theorem js {l m:List (List Nat)} (h:l.Sublist m):l.flatten.Sublist m.flatten:=by
 induction h with
 | slnil=>exact .slnil
 | cons a _ ih=>rw [List.flatten_cons];exact ih.trans (List.sublist_append_right _ _)
 | cons_cons a _ ih=>rw [List.flatten_cons,List.flatten_cons];exact (List.Sublist.refl a).append ih
theorem qr {l:List (List Nat)} {k:Nat} (h:l.flatten.Nodup):∀b∈(l.take k).flatten,b∉(l.drop (k+1)).flatten:=by
 intro b hb hc;have h1:(l.take k++l.drop k).flatten.Nodup:=by rw [List.take_append_drop];exact h
 rw [List.flatten_append,List.nodup_append] at h1;refine h1.2.2 b hb b ?_ rfl
 have:(l.drop (k+1)).Sublist (l.drop k):=by rw [←List.drop_drop];exact List.drop_sublist _ _
 exact (js this).subset hc
theorem um {t:Ty} {E:TypeId} {w:World} {b cap:Nat} {d:List t.D} {fp:List Nat} (h:(bH t E).Mine w [.slice (some ⟨b,0,none⟩) d.length cap] d fp):
 ∃(cs:List Value) (fps:List (List Nat)),fps.length=d.length/\fp=b :: fps.flatten/\cs.length=d.length*t.n/\(∀j u,cs[j]?=some u->w.cell? ⟨b,j,none⟩=some u) /\
  (∀i y,d[i]?=some y->∃f,fps[i]?=some f/\t.ow w ((cs.drop (i*t.n)).take t.n) y f)/\∀lo m,lo+m<=d.length->iG t w ((cs.drop (lo*t.n)).take (m*t.n)) ((d.drop lo).take m) ((fps.drop lo).take m):=by
 obtain ⟨h,hn⟩:=h;rcases h with ⟨h1,_⟩|⟨b',cap',cur,fps,h1,h2,h3,h4,h5,rfl,h7,h8⟩
 . simp at h1
 simp only [List.cons.injEq,Value.slice.injEq,Option.some.injEq,Addr.mk.injEq,and_true] at h1
 obtain ⟨rfl,_,rfl⟩:=h1;rw [List.nodup_cons] at hn;have hle:d.length*t.n<=cap*t.n:=Nat.mul_le_mul_right _ h2;have hcl:cur.toList.length=cap*t.n:=by rw [Array.length_toList];exact h5
 have hxl:(cur.toList.take (d.length*t.n)).length=d.length*t.n:=by
  rw [List.length_take,hcl];omega
 have hel:∀i y,d[i]?=some y->∃f,fps[i]?=some f/\t.ow w (((cur.toList.take (d.length*t.n)).drop (i*t.n)).take t.n) y f:=by
  intro i y hy;obtain ⟨f,hf,ho⟩:=h8 i y hy;have hi:=(List.getElem?_eq_some_iff.1 hy).1;have hmul:(i+1)*t.n<=d.length*t.n:=Nat.mul_le_mul_right _ hi;rw [Nat.add_mul,Nat.one_mul] at hmul;refine ⟨f,hf,?_⟩
  rw [List.drop_take,List.take_take,Nat.min_eq_left (by omega)];exact ho
 refine ⟨cur.toList.take (d.length*t.n),fps,h7,rfl,hxl,fun j u hu=>?_,hel,fun lo m hlm=>⟨?_,?_,?_,fun i y hy=>?_⟩⟩
 . rw [List.getElem?_take] at hu
   split at hu
   . rw [cell_of_row w b _ cur E (0,0) h4]
     simpa using hu
   simp at hu
 . have hmul:(lo+m)*t.n<=d.length*t.n:=Nat.mul_le_mul_right _ hlm
   rw [Nat.add_mul] at hmul;rw [List.length_take,List.length_drop,hxl,List.length_take,List.length_drop,Nat.min_eq_left (show m<=d.length-lo by omega)];omega
 . simp only [List.length_take,List.length_drop,h7]
 . refine hn.2.sublist ?_
   exact js ((List.take_sublist _ _).trans (List.drop_sublist _ _))
 rw [List.getElem?_take] at hy;split at hy
 case isTrue him=>
  rw [List.getElem?_drop] at hy;obtain ⟨f,hf,ho⟩:=hel (lo+i) y hy;have hmul:(i+1)*t.n<=m*t.n:=Nat.mul_le_mul_right _ him;rw [Nat.add_mul,Nat.one_mul] at hmul;refine ⟨f,by rw [List.getElem?_take,if_pos him,List.getElem?_drop];exact hf,?_⟩
  rw [List.drop_take,List.take_take,Nat.min_eq_left (by omega),List.drop_drop,←Nat.add_mul];exact ho
 case isFalse=>simp at hy
theorem br.but {k:IntKind} {E:TypeId} {w w':World} {lo l h':Nat} {v:Value} {zs:List Int} (h:br k E w lo v zs) (hb:But l h' w w') (hd:h'<=lo):br k E w' lo v zs:=(h.own.but hb (.inr hd)).1
theorem aF.but {k:IntKind} {w w':World} {a:Option Addr} {zs:List Int} {g h':Nat} (h:aF k w a zs) (hb:But g h' w w') (ha:0<zs.length->∀x,a=some x->x.block<g):aF k w' a zs:=by
 by_cases h0:zs.length=0
 . exact .inl (List.eq_nil_of_length_eq_zero h0)
 rcases h with h|⟨b,off,rfl,hlt,hc⟩
 . exact .inl h
 have hx:b<g:=ha (by omega) _ rfl;refine .inr ⟨b,off,rfl,Nat.lt_of_lt_of_le hlt hb.size,fun i hi=>?_⟩
 rw [World.cell?_of_block (w:=w) (hb.block b hlt (.inl hx))];exact hc i hi
theorem Cur.lower {w w':World} {g lb cb B:Nat} {a:Option Addr} (h:Cur w g a lb cb) (hb:Below B w w') (hB:g<B):Cur w' g a lb cb:=by
 obtain ⟨i,x,hi,hg⟩:=h;exact ⟨i,x,hi,by rw [hb.block g hB];exact hg⟩
theorem aF.lower {k:IntKind} {w w':World} {a:Option Addr} {zs:List Int} {B:Nat} (h:aF k w a zs) (hb:Below B w w') (ha:0<zs.length->∀x,a=some x->x.block<B):aF k w' a zs:=by
 by_cases h0:zs.length=0
 . exact .inl (List.eq_nil_of_length_eq_zero h0)
 exact h.old (ha (by omega)) hb
theorem aF.ahead {k:IntKind} {w:World} {a:Option Addr} {zs:List Int} {n:Nat} (h:aF k w a zs) (hn:zs.length=n):0<n->∀x,a=some x->x.block<w.heap.size:=by
 intro h0 x hx;rcases h.cases with h1|⟨b,off,rfl,hlt,_⟩
 . omega
 simp at hx
 subst hx;exact hlt
structure aN (w:World) (g:Nat) (a:Option Addr) (lb cb:Nat) (zs:List Int):Prop where
 cur:Cur w g a lb cb
 len:zs.length=lb
 reads:aF .u8 w a zs
 bytes:∀n∈zs,0<=n/\n<=255
 few:lb<=2097152
 ahead:0<lb->∀x,a=some x->x.block<g
theorem aN.lt {w:World} {g lb cb:Nat} {a:Option Addr} {zs:List Int} (h:aN w g a lb cb zs):g<w.heap.size:=h.cur.lt
theorem aN.next {w w':World} {g lb cb:Nat} {a:Option Addr} {zs:List Int} (h:aN w g a lb cb zs) (hc:Cur w' g a lb cb) (hb:But g (g+1) w w'):aN w' g a lb cb zs:=
 ⟨hc,h.len,h.reads.but hb (by rw [h.len];exact h.ahead),h.bytes,h.few,h.ahead⟩
theorem aN.lower {w w':World} {g lb cb B:Nat} {a:Option Addr} {zs:List Int} (h:aN w g a lb cb zs) (hb:Below B w w') (hB:g<B):aN w' g a lb cb zs:=
 ⟨h.cur.lower hb hB,h.len,h.reads.lower hb (by rw [h.len];exact fun h0 x hx=>Nat.lt_trans (h.ahead h0 x hx) hB),h.bytes,h.few,h.ahead⟩
theorem aN.alloc {w:World} {g lb cb:Nat} {a:Option Addr} {zs:List Int} (h:aN w g a lb cb zs) (o:Obj):aN (w.alloc o) g a lb cb zs:=h.lower ((Below.refl _ _).alloc (Nat.le_refl _) o) h.lt
theorem bF {w:World} {g lb cb:Nat} {a:Option Addr} {zs:List Int} (h:aN w g a lb cb zs) (n:Int) (hn:0<=n) (hn':n<=256):
 Calls Tryz.prog 101 #[.pointer (some ⟨g,0,none⟩),.int .i64 n] w fun e w'=>∃x:Int,e=.returned (.int .i64 x)/\0<=x/\(x<n∨x=0)/\aN w' g a lb cb zs/\But g (g+1) w w':=
 (kK w g a lb cb zs n h.cur h.len h.reads h.bytes h.few h.ahead hn hn').mono fun _ _ ⟨x,he,h0,h1,hc,hb⟩=>⟨x,he,h0,h1,h.next hc hb,hb⟩
theorem jW {w:World} {g lb cb:Nat} {a:Option Addr} {zs:List Int} (h:aN w g a lb cb zs) (la:Option Addr) (ll lc:Nat) (ls:List Int) (hl:ls.length=ll) (hlr:aF .i64 w la ls) (hla:∀x,la=some x->g+1<=x.block) (h1:1<=ll) (h2:ll<=256):
 Calls Tryz.prog 54 #[.pointer (some ⟨g,0,none⟩),.slice la ll lc] w fun e w'=>∃x:Int,e=.returned (.int .i64 x)/\x∈ls/\aN w' g a lb cb zs/\But g (g+1) w w':=
 (sp w g a lb cb zs la ll lc ls h.cur h.len h.reads h.bytes h.few h.ahead hl hlr hla h1 h2).mono fun _ _ ⟨x,he,h0,hc,hb⟩=>⟨x,he,h0,h.next hc hb,hb⟩
theorem fP {w:World} {g lb cb:Nat} {a:Option Addr} {zs:List Int} (h:aN w g a lb cb zs):
 Calls Tryz.prog 166 #[.pointer (some ⟨g,0,none⟩)] w fun e w'=>∃x:Int,e=.returned (.int .i64 x)/\isW x=true/\aN w' g a lb cb zs/\But g (g+1) w w':=by
 have hg:=h.lt;go_enter Tryz.func166,Tryz.ntmps166
 go_wp2_with fail
 refine (jW (h.alloc _) _ 8 _ [0,1,2,7,255,256,4660,65535] rfl (aF.new _ _ _ _ _ rfl) ?hx (by omega) (by omega)).mono ?_
 case hx=>intro x hx;simp at hx;subst hx;exact hg
 rintro e w1 ⟨x,rfl,hx,hd1,hb1⟩;have hw:isW x=true:=by
  simp at hx
  rcases hx with rfl|rfl|rfl|rfl|rfl|rfl|rfl|rfl<;>rfl
 have hB:=((But.refl g (g+1) w).alloc _).trans hb1;clear hb1 hx;go_wp2
 go_ret
 exact ⟨_,rfl,hw,hd1,hB⟩
theorem jX {w:World} {g lb cb:Nat} {a:Option Addr} {zs:List Int} (h:aN w g a lb cb zs):
 Calls Tryz.prog 104 #[.pointer (some ⟨g,0,none⟩)] w fun e w'=>∃(v:Value) (xs:List Int),e=.returned v/\xs.length<=4/\cE xs=true/\br .i64 3 w' w.heap.size v xs/\aN w' g a lb cb zs/\But g (g+1) w w':=by
 obtain ⟨i0,hi,hz0,hz1,hz2⟩:=info_parts Tryz.info3;have hown0:br .i64 3 (w.alloc (.cells #[] 3)) w.heap.size (.slice (some ⟨w.heap.size,0,none⟩) 0 0) []:=br.lit .i64 3 w [] 0 #[] rfl rfl (by unfold maxLen;omega);have hg:=h.lt;go_enter Tryz.func104,Tryz.ntmps104
 go_wp2_with fail
 refine (bF (h.alloc _) 5 (by omega) (by omega)).mono ?_
 rintro e w1 ⟨n,rfl,hn0,hn1,hd1,hb1⟩;have ho1:=hown0.but hb1 (by omega);have hB1:=((But.refl g (g+1) w).alloc _).trans hb1;obtain ⟨n,rfl⟩:=Int.eq_ofNat_of_zero_le hn0;have hn4:n<=4:=by omega
 clear hb1 hown0 hn0 hn1;go_wp2
 go_loopw [3,4] (fun o i wr=>∃(j:Nat) (xs:List Int),xs.length+j<=4/\i=.int .i64 j/\cE xs=true/\br .i64 3 wr w.heap.size o xs/\aN wr g a lb cb zs/\But g (g+1) w wr) (fun _ i _=>(intOf i).toNat)
 case atStart=>exact ⟨n,[],by simpa using hn4,rfl,rfl,ho1,hd1,hB1⟩
 clear ho1 hd1 hB1;obtain ⟨j,xs,hj,rfl,hxs,ho,hd,hb⟩:=hrel;by_cases hlt:0<j
 . go_wp2_with fail
   refine (fP hd).mono ?_
   rintro e w2 ⟨x,rfl,hx,hd2,hb2⟩;have ho2:=ho.but hb2 (by omega);have hB2:=hb.trans hb2;have hsz:=hB2.size;clear hb2 ho hd hb;go_wp2_with (at_builtin;refine cY .i64 (by rfl) _ _ 52 (by rfl) w.heap.size 3 i0 _ 8 Tryz.underlying52 hi hz0 hz1 hz2 rfl _ xs (by rfl) (ho2.alloc _) ⟨w2.heap.size,0,none⟩ 1 1 [x] (by rfl) rfl (aF.new _ _ _ _ _ rfl) ?h1 ?h2 ?h3 ?_)
   case h1=>unfold maxLen;omega
   case h2=>omega
   case h3=>simp;omega
   intro v' w3 ho3 hb3;have hl3:(xs++[x]).length+(j-1)<=4:=by simp;omega
   have hxs3:cE (xs++[x])=true:=by unfold cE at *;simp [hxs,hx]
   have hd3:=(hd2.alloc (.cells #[.int .i64 x] 3)).lower hb3 hg;have hB3:=(hB2.alloc (.cells #[.int .i64 x] 3)).thenBelow hb3;clear hb3 ho2 hd2 hB2;go_wp2
   go_roundw
   case rel=>exact ⟨j-1,xs++[x],hl3,by go_num,hxs3,ho3,hd3,hB3⟩
   case measure=>simp [intOf];omega
 go_wp2
 go_ret
 exact ⟨_,xs,rfl,by omega,hxs,ho,hd,hb⟩
theorem jY {w:World} {g lb cb:Nat} {a:Option Addr} {zs:List Int} (h:aN w g a lb cb zs):
 Calls Tryz.prog 103 #[.pointer (some ⟨g,0,none⟩)] w fun e w'=>∃(v:Value) (xs:List Int),e=.returned v/\xs.length<=13/\br .i64 3 w' w.heap.size v xs/\aN w' g a lb cb zs/\But g (g+1) w w':=by
 obtain ⟨i0,hi,hz0,hz1,hz2⟩:=info_parts Tryz.info3;have hg:=h.lt;go_enter Tryz.func103,Tryz.ntmps103
 go_wp2_with fail
 refine (jX h).mono ?_
 rintro e w1 ⟨v1,xs,rfl,hl1,_,ho1,hd1,hb1⟩;go_wp2_with fail
 refine (bF hd1 10 (by omega) (by omega)).mono ?_
 rintro e w2 ⟨n,rfl,hn0,hn1,hd2,hb2⟩;have ho2:=ho1.but hb2 (by omega);have hB2:=hb1.trans hb2;have hsz:=hB2.size;clear ho1 hd1 hb1 hb2;by_cases e0:n=0
 . subst e0
   go_wp2_with fail
   refine (jW (hd2.alloc _) _ 2 _ [-1,65536] rfl (aF.new _ _ _ _ _ rfl) ?hx (by omega) (by omega)).mono ?_
   case hx=>intro x hx;simp at hx;subst hx;exact hd2.lt
   rintro e w3 ⟨x,rfl,_,hd3,hb3⟩;have ho3:=(ho2.alloc (.cells #[.int .i64 (-1),.int .i64 65536] 3)).but hb3 (by omega);have hB3:=(hB2.alloc _).trans hb3;have hsz3:=hB3.size;clear ho2 hd2 hB2 hb3;go_wp2_with (at_builtin;refine cY .i64 (by rfl) _ _ 52 (by rfl) w.heap.size 3 i0 _ 8 Tryz.underlying52 hi hz0 hz1 hz2 rfl _ xs (by rfl) (ho3.alloc _) ⟨w3.heap.size,0,none⟩ 1 1 [x] (by rfl) rfl (aF.new _ _ _ _ _ rfl) ?h1 ?h2 ?h3 ?_)
   case h1=>unfold maxLen;omega
   case h2=>omega
   case h3=>simp;omega
   intro v' w4 ho4 hb4;have hl4:(xs++[x]).length<=13:=by simp;omega
   have hd4:=(hd3.alloc (.cells #[.int .i64 x] 3)).lower hb4 hg;have hB4:=(hB3.alloc (.cells #[.int .i64 x] 3)).thenBelow hb4;clear hb4 ho3 hd3 hB3;go_wp2
   go_ret
   exact ⟨_,_,rfl,hl4,ho4,hd4,hB4⟩
 by_cases e1:n=1
 . subst e1
   go_wp2_with fail
   refine (bF hd2 2 (by omega) (by omega)).mono ?_
   rintro e w3 ⟨m,rfl,hm0,hm1,hd3,hb3⟩;obtain ⟨m,rfl⟩:=Int.eq_ofNat_of_zero_le hm0;have hm:m<=1:=by omega
   have hB3:=hB2.trans hb3;have hsz3:=hB3.size;clear ho2 hd2 hB2 hb3 hm0 hm1;have hb3':i0.bytes*(12+m)<=281474976710656:=by rw [hz2];omega
   have hm3:12+m<=maxLen:=by unfold maxLen;omega
   go_wp2_with (at_make;refine wpList_make_full _ rfl _ _ 52 rfl w.heap.size 3 i0 (.int .i64 0) 1 Tryz.underlying52 hi hz0 hz1 _ _ _ _ (12+m) rfl rfl (by omega) (by omega) hb3' hm3 hsz3 ?_;intro w4 hown hgrow)
   have ho4:br .i64 3 w4 w.heap.size (.slice (some ⟨w3.heap.size,0,none⟩) (12+m) (12+m)) (List.replicate (12+m) 0):=by
    rw [rM] at hown;unfold br;rw [List.length_replicate];exact hown
   have hbb:Below w3.heap.size w3 w4:=(Below.refl _ _).grown hgrow (Nat.le_refl _) (by simp);have hl4:(List.replicate (12+m) (0:Int)).length<=13:=by rw [List.length_replicate];omega
   have hd4:=hd3.lower hbb hd3.lt;have hB4:=hB3.trans (But.of_below hbb);clear hbb hown hgrow hd3 hB3;go_wp2
   go_ret
   exact ⟨_,_,rfl,hl4,ho4,hd4,hB4⟩
 have e0':(n==0)=false:=by simpa using e0
 have e1':(n==1)=false:=by simpa using e1
 go_wp2
 go_ret
 exact ⟨_,_,rfl,by omega,ho2,hd2,hB2⟩
theorem Own.under {k:IntKind} {E:TypeId} {w w':World} {lo hi N:Nat} {v:Value} {zs:List Int} (h:Own k E w lo hi v zs) (hb:Below N w w') (hN:hi<=N):Own k E w' lo hi v zs:=by
 refine ⟨⟨h.1.1,?_⟩,h.2⟩
 rcases h.1.2 with h2|⟨g,cap,cur,hv,hbg,hg,r⟩
 . exact .inl h2
 have hhi:g<hi:=h.2 g (by rw [hv];rfl);exact .inr ⟨g,cap,cur,hv,hbg,by rw [hb.block g (by omega)];exact hg,r⟩
theorem mB {w:World} {g lb cb:Nat} {a:Option Addr} {zs:List Int} (h:aN w g a lb cb zs) (n:Int) (hn:0<=n) (hn':n<=256):
 Calls Tryz.prog 94 #[.pointer (some ⟨g,0,none⟩),.int .i64 n] w fun e w'=>∃b:Bool,e=.returned (.bool b)/\aN w' g a lb cb zs/\But g (g+1) w w':=by
 go_enter Tryz.func94,Tryz.ntmps94
 go_wp2_with fail
 refine (bF h n hn hn').mono ?_
 rintro e w1 ⟨x,rfl,_,_,D1,b1⟩;go_wp2
 go_ret
 exact ⟨_,rfl,D1,b1⟩
theorem iL {w:World} {g lb cb:Nat} {a:Option Addr} {zs:List Int} (h:aN w g a lb cb zs):
 Calls Tryz.prog 73 #[.pointer (some ⟨g,0,none⟩)] w fun e w'=>∃x:Int,e=.returned (.int .i64 x)/\aN w' g a lb cb zs/\But g (g+1) w w':=by
 have hg:=h.lt;go_enter Tryz.func73,Tryz.ntmps73
 go_wp2_with fail
 refine (jW (h.alloc _) _ 7 _ [0,1,2,0,1,-1,5] rfl (aF.new _ _ _ _ _ rfl) (fun q hq=>by simp at hq;subst hq;exact hg) (by omega) (by omega)).mono ?_
 rintro e w2 ⟨x,rfl,_,D2,b2⟩;have B2:=((But.refl g (g+1) w).alloc (.cells #[.int .i64 0,.int .i64 1,.int .i64 2,.int .i64 0,.int .i64 1,.int .i64 (-1),.int .i64 5] 3)).trans b2;go_wp2
 go_ret
 exact ⟨x,rfl,D2,B2⟩
end Go.Proofs.YtejokiafgbjdaaaGreat
