/-
 What it is that an array is right (arrB), and the walks of the specification's look for it: disk by disk, entry by entry. Condition: it weighs at most 2097152.
-/
import Derived.Test.YtejeekndbnpmoaaGreatRowWritesBentSq2
import Derived.Test.YtejeekndbnpmoaaGreatRowWritesBentSq1
import Derived.OrdersHeld
import Derived.RegionTactic

set_option maxRecDepth 100000
set_option maxHeartbeats 8000000
set_option linter.unusedSimpArgs false

namespace Go.Proofs.YtejeekndbnpmoaaGreat
open Go.RowKit

abbrev aF:=Int×List Int
def fj (e:aF) (q:List aF×Bool) (d:aF):List aF×Bool:=
 let q1:=if q.2=false/\e.1<=d.1 then (q.1++[e],true) else q
 if d.1=e.1 then q1 else (q1.1++[d],q1.2)
def fH (ds:List aF) (e:aF) (j:Nat):List aF×Bool:=(ds.take j).foldl (fj e) ([],false)
def lq (ds:List aF) (e:aF):List aF:=if (fH ds e ds.length).2=true then (fH ds e ds.length).1 else (fH ds e ds.length).1++[e]
theorem nQ {ds:List aF} {e d:aF} {j:Nat} (h:ds[j]?=some d):fH ds e (j+1)=fj e (fH ds e j) d:=by
 unfold fH;rw [List.take_add_one,h,List.foldl_append];rfl
theorem sK (e:aF) (q:List aF×Bool) (d:aF):(fj e q d).1.length<=q.1.length+2:=by
 unfold fj;dsimp only
 split<;>split<;>simp<;>omega
theorem pF (ds:List aF) (e:aF):∀j,j<=ds.length->(fH ds e j).1.length<=2*j
 | 0,_=>by simp [fH]
 | j+1,h=>by
  have ih:=pF ds e j (by omega);have h1:=sK e (fH ds e j) (ds[j]'(by omega));rw [nQ (List.getElem?_eq_getElem (by omega))];omega
theorem kh {w:World} {E:TypeId} {bd:Option Addr} {n cap:Nat} {ds:List aF} {fd:List Nat} (h:(aU E).Mine w [.slice bd n cap] ds fd):
 ∃fps:List (List Nat),fps.length=ds.length/\fps.flatten.Nodup/\(∀b∈fps.flatten,b∈fd)/\∀(i:Nat) (d:aF),ds[i]?=some d->∃(f:List Nat) (g:Nat) (a:Option Addr) (c:Nat),fps[i]?=some f/\bd=some ⟨g,0,none⟩/\g<w.heap.size/\g∈fd/\g∉f/\w.cell? ⟨g,i*2,none⟩=some (.int .i64 d.1)/\w.cell? ⟨g,i*2+1,none⟩=some (.slice a d.2.length c)/\tWr.Mine w [.int .i64 d.1,.slice a d.2.length c] d f:=by
 obtain ⟨h,hn⟩:=h;rcases h with ⟨_,h2,_⟩|⟨b,cap',cur,fps,h1,h2,h3,h4,h5,h6,h7,h8⟩
 . subst h2
   exact ⟨[],rfl,by simp,by simp,fun i d hd=>by simp at hd⟩
 simp only [List.cons.injEq,Value.slice.injEq,and_true] at h1
 rw [h6,List.nodup_cons] at hn;refine ⟨fps,h7,hn.2,fun c hc=>by rw [h6];exact List.mem_cons_of_mem _ hc,fun i d hd=>?_⟩
 obtain ⟨f,hf,ho⟩:=h8 i d hd;have hfn:=(ez hn.2 hf).1;have hgf:b∉f:=fun hm=>hn.1 (List.mem_flatten.2 ⟨f,List.mem_of_getElem? hf,hm⟩);have hil:=(List.getElem?_eq_some_iff.1 hd).1;have h5':cur.size=cap'*2:=h5;have hlen:((cur.toList.drop (i*2)).take 2).length=2:=by
  rw [List.length_take,List.length_drop,Array.length_toList,h5'];omega
 have ho':tWr.ow w ((cur.toList.drop (i*2)).take 2) d f:=ho;obtain ⟨v0,v1,hv⟩:∃v0 v1,(cur.toList.drop (i*2)).take 2=[v0,v1]:=by
  match hq:(cur.toList.drop (i*2)).take 2,hlen with
  | [v0,v1],_=>exact ⟨v0,v1,rfl⟩
 rw [hv] at ho';have hM:tWr.Mine w [v0,v1] d f:=⟨ho',hfn⟩;obtain ⟨hv0,hr⟩:=eI hM.rd;obtain ⟨a,c,hv1⟩:=az hr;have c0:cur.toList[i*2]?=some v0:=by
  have:((cur.toList.drop (i*2)).take 2)[0]?=some v0:=by rw [hv];rfl
  rw [List.getElem?_take,if_pos (by omega),List.getElem?_drop] at this;simpa using this
 have c1:cur.toList[i*2+1]?=some v1:=by
  have:((cur.toList.drop (i*2)).take 2)[1]?=some v1:=by rw [hv];rfl
  rw [List.getElem?_take,if_pos (by omega),List.getElem?_drop] at this;simpa using this
 subst hv0 hv1;refine ⟨f,b,a,c,hf,h1.1,(Array.getElem?_eq_some_iff.1 h4).1,by rw [h6];exact List.mem_cons_self,hgf,?_,?_,hM⟩
 . rw [cell_of_row w b _ cur E (0,0) h4];simpa using c0
 rw [cell_of_row w b _ cur E (0,0) h4];simpa using c1
theorem pG (a b:List Nat):ei (a++b)=ei a+ei b:=by
 induction a with
 | nil=>simp [ei]
 | cons x a ih=>
  simp only [List.cons_append,ei,List.foldr_cons] at *
  omega
theorem jK (a b:List aF):bh (a++b)=bh a+bh b:=by
 unfold bh;rw [List.map_append,pG,List.length_append];omega
theorem qJ (l:List aF) (k:Nat):bh (l.take k)+bh (l.drop k)=bh l:=by
 rw [←jK,List.take_append_drop]
theorem pH (l:List aF) (k:Nat):bh (l.drop (k+1))<=bh (l.drop k):=by
 have:=qJ (l.drop k) 1;rw [List.drop_drop] at this;omega
def Asc8 (ds:List (Int×List Int)):Prop:=(∀(i j:Nat) (e e':Int×List Int),i<j->ds[i]?=some e->ds[j]?=some e'->e.1<e'.1)/\∀(i:Nat) (e:Int×List Int),ds[i]?=some e->0<=e.1/\e.1<=100
def Spot (ds:List (Int×List Int)) (t:Int) (k:Nat) (b:Bool):Prop:=
 k<=ds.length/\(∀(i:Nat) (e:Int×List Int),i<k->ds[i]?=some e->e.1<t)/\(∀(i:Nat) (e:Int×List Int),k<=i->ds[i]?=some e->t<=e.1)/\((b=true/\∃e,ds[k]?=some e/\e.1=t)∨(b=false/\∀e,ds[k]?=some e->¬e.1=t))
def ah (P:Program) (ops:Array Oper) (Q:Exit->Act->World->Prop) (S:World->Prop) (k:Nat):Nat->Array Bool->Act->World->Prop
 | 0,l,a,w=>Region.ready .any ops l=[]/\Q .normal a w
 | n+1,l,a,w=>(Region.ready .any ops l=[]->Q .normal a w)/\∀j∈Region.ready .any ops l,wpOp P ops Q j (fun a' w'=>(j≠k->S w')/\ah P ops Q S k n (l.setIfInBounds j true) a' w') a w
section
variable {P:Program} {ops:Array Oper} {Q:Exit->Act->World->Prop} {S:World->Prop} {k:Nat}
theorem ah.any:∀(n:Nat) (l:Array Bool) (a:Act) (w:World),ah P ops Q S k n l a w->wpAny P .any ops Q n l a w
 | 0,_,_,_,h=>h
 | n+1,_,_,_,h=>⟨h.1,fun j hj=>wpOp_mono (fun a' w' h'=>ah.any n _ a' w' h'.2) (h.2 j hj)⟩
theorem ah.start {id:Nat} {a:Act} {w:World} (hm:P.follows .mixedOrders=true) (h:ah P ops Q S k ops.size (Array.replicate ops.size false) a w.drew):(Code.region id ops true).wp P Q a w:=
 wp_region_any hm (ah.any _ _ _ _ h)
theorem lE {l:Array Bool} {i:Nat} (h0:l.getD i true=false) (h1:l.getD i false=true):False:=by
 by_cases hi:i<l.size
 . simp [hi] at h0 h1
   rw [h0] at h1;cases h1
 simp [Array.getElem?_eq_none (Nat.le_of_not_lt hi)] at h1
theorem ah.first {i:Nat} {oi ok:Oper} {v:Value} (hi:ops[i]?=some oi) (hk:ops[k]?=some ok) (hki:∃e∈ok.after,Region.binds .any e=true/\e.on=i)
 (hsel:∀(j:Nat) (o:Oper) cs b,ops[j]?=some o->o.op≠.select cs b) (hQ:∀c a w,Q (.panic c) (a.put oi.dst v) w->Q (.panic c) a w) (n:Nat):
 ∀(l:Array Bool) (a:Act) (w:World),
  (∀j oj,ops[j]?=some oj->j≠i->l.getD j true=false->(∀e∈oj.after,Region.binds .any e=true->e.on≠i)->oi.apart ops oj=true) ->
  i∈Region.ready .any ops l->YieldsIf P ops S oi v a->S w->ah P ops Q S k n (l.setIfInBounds i true) (a.put oi.dst v) w->ah P ops Q S k (n+1) l a w:=by
 induction n with
 | zero=>
  intro l a w _ hr hy hS H;constructor
  . intro h
    rw [h] at hr;simp at hr
  intro j hj;by_cases hji:j=i
  . rw [hji]
    exact hy.wpOp hi hS ⟨fun _=>hS,H⟩
  have h2:=ready_mono (i:=i) hj hji;rw [H.1] at h2;simp at h2
 | succ n ih=>
  intro l a w hfree hr hy hS H;constructor
  . intro h
    rw [h] at hr;simp at hr
  intro j hj;by_cases hji:j=i
  . rw [hji]
    exact hy.wpOp hi hS ⟨fun _=>hS,H⟩
  obtain ⟨hju,oj,hoj,hall⟩:=mem_ready.1 hj;have hiu:=(mem_ready.1 hr).1;have hno:∀e∈oj.after,Region.binds .any e=true->e.on≠i:=fun e he hb hon=>lE hiu (hon▸hall e he hb);have hjk:j≠k:=by
   intro hjk;rw [hjk,hk] at hoj;obtain ⟨e,he,hb,hon⟩:=hki;cases hoj;exact hno e he hb hon
  have h1:=H.2 j (ready_mono hj hji);have h2:=wpOp_putIf hoj (hfree j oj hoj hji hju hno) (fun cs b=>hsel i oi cs b hi) (fun cs b=>hsel j oj cs b hoj) hQ hy h1;refine wpOp_mono ?_ h2
  intro a' w' h3;have hS':=h3.2.1 hjk;refine ⟨fun _=>hS',ih _ a' w' ?_ (ready_mono hr (Ne.symm hji)) h3.1 hS' ?_⟩
  . intro m om hm hmi hun hnm
    refine hfree m om hm hmi ?_ hnm
    by_cases hjm:j=m
    . rw [←hjm]
      exact hju
    rw [getD_set_ne true hjm] at hun;exact hun
  rw [Array.setIfInBounds_comm _ _ hji];exact h3.2.2
theorem gN {i:Nat} {o:Oper} {tl:List Oper} (h:ops.toList.drop i=o :: tl):ops[i]?=some o:=by
 have h1:(ops.toList.drop i)[0]?=some o:=by rw [h];rfl
 rw [List.getElem?_drop] at h1;simpa using h1
theorem ah.take {i:Nat} {oi:Oper} {v:Value} {n:Nat} {l:Array Bool} {a:Act} {w:World} {tl:List Oper} (hi':ops.toList.drop i=oi :: tl)
 (hki:((ops[k]?).map fun o=>o.after.any fun e=>Region.binds .any e&&e.on==i)=some true) (hs:Region.noSelect ops=true) (hf:Region.free .any ops l i=true) (hr:(Region.ready .any ops l).contains i=true)
 (hQ:∀c a w,Q (.panic c) (a.put oi.dst v) w->Q (.panic c) a w) (hy:YieldsIf P ops S oi v a) (hS:S w) (h:ah P ops Q S k n (l.setIfInBounds i true) (a.put oi.dst v) w):ah P ops Q S k (n+1) l a w:=by
 have hi:=gN hi';cases hk:ops[k]? with
 | none=>rw [hk] at hki;cases hki
 | some ok=>
  rw [hk] at hki;simp only [Option.map_some,Option.some.injEq,Array.any_eq_true',Bool.and_eq_true,beq_iff_eq] at hki
  exact ah.first hi hk hki (Region.noSelect_spec hs) hQ n l a w (Region.free_spec hi hf) (by simpa using hr) hy hS h
theorem ah.one {i:Nat} {o:Oper} {n:Nat} {l:Array Bool} {a:Act} {w:World} {tl:List Oper} (hr:Region.ready .any ops l=[i]) (ho:ops.toList.drop i=o :: tl)
 (h:∀K':Act->World->Prop,Shut (∀a w,(i≠k->S w)->ah P ops Q S k n (l.setIfInBounds i true) a w->K' a w)->if Region.wanted o (yielded ops a.tmps)=true then Oper.wp P o a w K' Q else K' (a.put o.dst undef) w):ah P ops Q S k (n+1) l a w:=by
 constructor
 . intro h0
   rw [hr] at h0;simp at h0
 intro j hj;rw [hr] at hj;simp at hj
 rw [hj];exact wpOp_step (gN ho) (fun K' hK=>h K' (fun a w hS hW=>hK a w ⟨hS,hW⟩))
theorem ah.done {l:Array Bool} {a:Act} {w:World} (hr:Region.ready .any ops l=[]) (h:Q .normal a w):∀n,ah P ops Q S k n l a w
 | 0=>⟨hr,h⟩
 | _+1=>⟨fun _=>h,by rw [hr];simp⟩
end
variable {P:Program} {ops:Array Oper} {Q:Exit->Act->World->Prop} {S:World->Prop}
theorem cX {i:Nat} {oi:Oper} {v:Value} {fuel:Nat} {l:Array Bool} {a:Act} {w:World} {tl:List Oper} (hi:ops.toList.drop i=oi :: tl)
 (hs:Region.noSelect ops=true) (hf:Region.free .any ops l i=true) (hr:(Region.ready .any ops l).contains i=true)
 (hQ:∀c a w,Q (.panic c) (a.put oi.dst v) w->Q (.panic c) a w) (hw:Region.wanted oi (yielded ops a.tmps)=true) (hy:∀w,S w->(execOp a.eval oi).run P w=.ok (.value v) w) (hS:S w)
 (h:wpAnyH P .any ops Q S fuel (l.setIfInBounds i true) (a.put oi.dst v) w):wpAnyH P .any ops Q S (fuel+1) l a w:=
 wpAnyH_take (gN hi) hs hf hr hQ (Or.inl ⟨hw,hy⟩) hS h
theorem sM {i:Nat} {oi:Oper} {fuel:Nat} {l:Array Bool} {a:Act} {w:World} {tl:List Oper} (hi:ops.toList.drop i=oi :: tl)
 (hs:Region.noSelect ops=true) (hf:Region.free .any ops l i=true) (hr:(Region.ready .any ops l).contains i=true)
 (hQ:∀c a w,Q (.panic c) (a.put oi.dst undef) w->Q (.panic c) a w) (hw:Region.wanted oi (yielded ops a.tmps)=false) (hS:S w)
 (h:wpAnyH P .any ops Q S fuel (l.setIfInBounds i true) (a.put oi.dst undef) w):wpAnyH P .any ops Q S (fuel+1) l a w:=
 wpAnyH_take (gN hi) hs hf hr hQ (Or.inr ⟨hw,rfl⟩) hS h
theorem aq {i:Nat} {o:Oper} {fuel:Nat} {l:Array Bool} {a:Act} {w:World} {tl:List Oper} (hr:Region.ready .any ops l=[i]) (ho:ops.toList.drop i=o :: tl) (hw:Region.wanted o (yielded ops a.tmps)=true)
 (h:∀K':Act->World->Prop,Shut (∀a w,S w->(S w->wpAnyH P .any ops Q S fuel (l.setIfInBounds i true) a w)->K' a w)->Oper.wp P o a w K' Q):wpAnyH P .any ops Q S (fuel+1) l a w:=
 wpAnyH_ready hr (by simp) (AllReadyH.cons (gN ho) (fun K' hK=>by rw [if_pos hw];exact h K' hK) AllReadyH.nil)
theorem ab (i:Nat) {oi:Oper} {v:Value} {fuel:Nat} {l:Array Bool} {a a':Act} {w:World} {tl:List Oper} (hS:S w) (h:wpAnyH P .any ops Q S fuel (l.setIfInBounds i true) a' w) (hi:ops.toList.drop i=oi :: tl:=by rfl)
 (hs:Region.noSelect ops=true:=by kernel_rfl) (hf:Region.free .any ops l i=true:=by kernel_rfl) (hr:(Region.ready .any ops l).contains i=true:=by kernel_rfl)
 (hQ:∀c a w,Q (.panic c) (a.put oi.dst v) w->Q (.panic c) a w:=by exact fun _ _ _ h=>h) (hw:Region.wanted oi (yielded ops a.tmps)=true:=by kernel_rfl)
 (hy:∀w,S w->(execOp a.eval oi).run P w=.ok (.value v) w:=by (intro w hSw;(try dsimp only at hSw);go_split_ands;go_simp;first|done|with_reducible rfl))
 (ha:a.put oi.dst v=a':=by (simp only [Act.put,List.setIfInBounds_toArray,List.set_cons_zero,List.set_cons_succ];first|done|rfl)):wpAnyH P .any ops Q S (fuel+1) l a w:=cX hi hs hf hr hQ hw hy hS (ha▸h)
theorem fN {i:Nat} {o:Oper} {fuel:Nat} {l:Array Bool} {a:Act} {w:World} {tl:List Oper} (hr:Region.ready .any ops l=[i]) (ho:ops.toList.drop i=o :: tl) (hw:Region.wanted o (yielded ops a.tmps)=false) (hS:S w)
 (h:wpAnyH P .any ops Q S fuel (l.setIfInBounds i true) (a.put o.dst undef) w):wpAnyH P .any ops Q S (fuel+1) l a w:=
 wpAnyH_ready hr (by simp) (AllReadyH.cons (gN ho) (fun K' hK=>by rw [if_neg (by rw [hw];simp)];exact hK _ _ hS (fun _=>h)) AllReadyH.nil)
theorem ah.t {k:Nat} (i:Nat) {oi:Oper} {v:Value} {n:Nat} {l:Array Bool} {a a':Act} {w:World} {tl:List Oper} (hS:S w) (h:ah P ops Q S k n (l.setIfInBounds i true) a' w) (hi:ops.toList.drop i=oi :: tl:=by rfl)
 (hki:((ops[k]?).map fun o=>o.after.any fun e=>Region.binds .any e&&e.on==i)=some true:=by kernel_rfl) (hs:Region.noSelect ops=true:=by kernel_rfl) (hf:Region.free .any ops l i=true:=by kernel_rfl) (hr:(Region.ready .any ops l).contains i=true:=by kernel_rfl)
 (hQ:∀c a w,Q (.panic c) (a.put oi.dst v) w->Q (.panic c) a w:=by exact fun _ _ _ h=>h) (hw:Region.wanted oi (yielded ops a.tmps)=true:=by rfl) (hy:∀w,S w->(execOp a.eval oi).run P w=.ok (.value v) w:=by (intro w hSw;(try dsimp only at hSw);go_split_ands;go_simp;first|done|with_reducible rfl)) (ha:a.put oi.dst v=a':=by (simp only [Act.put,List.setIfInBounds_toArray,List.set_cons_zero,List.set_cons_succ];first|done|rfl)):ah P ops Q S k (n+1) l a w:=
 ah.take hi hki hs hf hr hQ (Or.inl ⟨hw,hy⟩) hS (ha▸h)
theorem ao (i:Nat) {oi:Oper} {fuel:Nat} {l:Array Bool} {a a':Act} {w:World} {tl:List Oper} (hS:S w) (h:wpAnyH P .any ops Q S fuel (l.setIfInBounds i true) a' w) (hi:ops.toList.drop i=oi :: tl:=by rfl)
 (hs:Region.noSelect ops=true:=by kernel_rfl) (hf:Region.free .any ops l i=true:=by kernel_rfl) (hr:(Region.ready .any ops l).contains i=true:=by kernel_rfl)
 (hQ:∀c a w,Q (.panic c) (a.put oi.dst undef) w->Q (.panic c) a w:=by exact fun _ _ _ h=>h) (hw:Region.wanted oi (yielded ops a.tmps)=false:=by kernel_rfl)
 (ha:a.put oi.dst undef=a':=by (simp only [Act.put,List.setIfInBounds_toArray,List.set_cons_zero,List.set_cons_succ];first|done|rfl)):wpAnyH P .any ops Q S (fuel+1) l a w:=sM hi hs hf hr hQ hw hS (ha▸h)
def isW (n:Int):Bool:=decide (0<=n)&&decide (n<=65535)
def cG (l:List Int):Bool:=l.all isW
def da (l:List Int):Bool:=decide (l.length<=12)&&cG l
theorem nS {zs:List Int} {j:Nat} {x:Int} (h:j<zs.length) (hx:zs.getD j 0=x):
 (isW x=true->cG (zs.take j)=true->cG (zs.take (j+1))=true)/\(isW x=false->cG zs=false):=by
 have e:zs[j]=x:=by rw [←hx];simp [List.getElem?_eq_getElem h]
 refine ⟨fun h1 h2=>?_,fun h1=>?_⟩
 . unfold cG at *
   rw [List.take_succ_eq_append_getElem h,List.all_append,h2,e];simp [h1]
 unfold cG;rw [List.all_eq_false];exact ⟨x,by rw [←e];exact List.getElem_mem h,by simp [h1]⟩
theorem lF (n:Int) (w:World):Calls Tryz.prog 115 #[.int .i64 n] w fun e w'=>e=.returned (.bool (isW n))/\w'=w:=by
 unfold isW;by_cases h0:0<=n
 . by_cases h1:n<=65535
   . go_enter Tryz.func115,Tryz.ntmps115
     go_wp2
     go_ret
     exact ⟨ag (by simp [h0,h1]),rfl⟩
   go_enter Tryz.func115,Tryz.ntmps115
   go_wp2
   go_ret
   exact ⟨ag (by symm;simp;omega),rfl⟩
 go_enter Tryz.func115,Tryz.ntmps115
 go_wp2
 go_ret
 exact ⟨ag (by symm;simp;omega),rfl⟩
theorem lG (n:Int) (w:World):Calls Tryz.prog 117 #[.int .i64 n] w fun e w'=>e=.returned (.bool (isW n))/\w'=w:=by
 go_enter Tryz.func117,Tryz.ntmps117
 go_wp2_with (go_at_call 122;refine (aE _ _ _ _).mono ?_;rintro e w' ⟨rfl,rfl⟩)
 go_ret
 exact ⟨rfl,rfl⟩
theorem dD (w:World) (a:Option Addr) (len cap:Nat) (zs:List Int) (hz:zs.length=len) (hr:aK .i64 w a zs) (hlen:len<=2097152):
 Calls Tryz.prog 170 #[.slice a len cap] w fun e w'=>e=.returned (.bool (cG zs))/\w'=w:=by
 go_enter Tryz.func170,Tryz.ntmps170
 go_wp2
 go_loop [3] (fun i=>∃j:Nat,j<=len/\i=.int .i64 j/\cG (zs.take j)=true) (fun i=>len-(intOf i).toNat)
 case atStart=>exact ⟨0,Nat.zero_le _,rfl,rfl⟩
 obtain ⟨j,hj,rfl,ht⟩:=hrel;by_cases hlt:j<len
 . rcases hr.cases with h0|⟨b,off,rfl,hbl,hc⟩
   . omega
   have hc1:=hc j (by omega);have hd:=nS (zs:=zs) (j:=j) (by omega) rfl;generalize zs.getD j 0=x at hc1 hd;have HT:Hid (cG (zs.take j)=true):=ht;clear hc ht;by_cases hx:isW x=true
   . have HD:=hd.1 hx HT.out
     clear hd;go_wp2_with (go_at_call 117;refine (lG _ _).mono ?_;rintro e w' ⟨rfl,rfl⟩)
     go_round
     case rel=>exact ⟨j+1,by omega,by go_num,HD⟩
     case measure=>simp [intOf];omega
   have hx:isW x=false:=by simpa using hx
   have HD:=hd.2 hx;clear hd;go_wp2_with (go_at_call 117;refine (lG _ _).mono ?_;rintro e w' ⟨rfl,rfl⟩)
   go_ret
   exact ⟨ag (by rw [HD]),rfl⟩
 go_wp2
 go_ret
 have e:j=len:=by omega
 subst e;rw [List.take_of_length_le (by omega)] at ht;exact ⟨ag ht.symm,rfl⟩
theorem dY (w:World) (a:Option Addr) (len cap:Nat) (zs:List Int) (hz:zs.length=len) (hr:aK .i64 w a zs) (hlen:len<=2097152):
 Calls Tryz.prog 241 #[.slice a len cap] w fun e w'=>e=.returned (.bool (da zs))/\aN w w':=by
 by_cases h:len<=12
 . go_enter Tryz.func241,Tryz.ntmps241
   go_wp2_with (go_at_call 170;refine (dD _ _ _ _ zs hz hr hlen).mono ?_;rintro e w' ⟨rfl,rfl⟩)
   go_ret
   exact ⟨ag (by simp [da,hz,h]),aN.refl _⟩
 go_enter Tryz.func241,Tryz.ntmps241
 go_wp2
 go_ret
 exact ⟨ag (by simp [da,hz,h]),aN.refl _⟩
theorem bO (w:World) (a:Option Addr) (len cap:Nat) (zs:List Int) (hz:zs.length=len) (hr:aK .i64 w a zs) (hlen:len<=2097152):
 Calls Tryz.prog 157 #[.slice a len cap] w fun e w'=>e=.returned (.bool (da zs))/\aN w w':=by
 by_cases h:len<=12
 . go_enter Tryz.func157,Tryz.ntmps157
   go_wp2
   go_loop [10] (fun i=>∃j:Nat,j<=len/\i=.int .i64 j/\cG (zs.take j)=true) (fun i=>len-(intOf i).toNat)
   case atStart=>exact ⟨0,Nat.zero_le _,rfl,rfl⟩
   obtain ⟨j,hj,rfl,ht⟩:=hrel;by_cases hlt:j<len
   . rcases hr.cases with h0|⟨b,off,rfl,hbl,hc⟩
     . omega
     have hc1:=hc j (by omega);have hd:=nS (zs:=zs) (j:=j) (by omega) rfl;generalize zs.getD j 0=x at hc1 hd;have HT:Hid (cG (zs.take j)=true):=ht;clear hc ht;by_cases hx:isW x=true
     . have HD:=hd.1 hx HT.out
       clear hd;go_wp2_with (go_at_call 115;refine (lF _ _).mono ?_;rintro e w' ⟨rfl,rfl⟩)
       go_round
       case rel=>exact ⟨j+1,by omega,by go_num,HD⟩
       case measure=>simp [intOf];omega
     have hx:isW x=false:=by simpa using hx
     have HD:=hd.2 hx;clear hd;go_wp2_with (go_at_call 115;refine (lF _ _).mono ?_;rintro e w' ⟨rfl,rfl⟩)
     go_ret
     exact ⟨ag (by simp [da,HD]),aN.refl _⟩
   go_wp2
   go_ret
   have e:j=len:=by omega
   subst e;rw [List.take_of_length_le (by omega)] at ht;exact ⟨ag (by simp [da,hz,h,ht]),aN.refl _⟩
 go_enter Tryz.func157,Tryz.ntmps157
 go_wp2
 go_ret
 exact ⟨ag (by simp [da,hz,h]),aN.refl _⟩
def wrB (n:Int) (x:Int×List Int):Bool:=inB x.1 0 (n-1)&&da x.2
def dA (n:Int) (bs:List Int) (i:Nat):Bool:=inB (bs.getD i 0) 0 (n-1)&&(decide (i=0)||decide (bs.getD (i-1) 0<bs.getD i 0))
def ik (n:Int) (bs:List Int):Bool:=(List.range bs.length).all (dA n bs)
def bp (ss:List (List Int)) (cs:List (Int×List Int)) (bs:List Int):Bool:=
 ss.all da&&(cs.all (wrB ss.length)&&(ik ss.length bs&&(inB ss.length 1 20&&decide (cs.length<=60))))
theorem jL {α:Type} {p:α->Bool} {l:List α} {j:Nat} {x:α} (h:l[j]?=some x):(p x=true->(l.take j).all p=true->(l.take (j+1)).all p=true)/\(p x=false->l.all p=false):=by
 have hj:j<l.length:=(List.getElem?_eq_some_iff.1 h).1;have e:l[j]=x:=by rw [List.getElem?_eq_getElem hj] at h;simpa using h
 refine ⟨fun h1 h2=>?_,fun h1=>?_⟩
 . rw [List.take_succ_eq_append_getElem hj,List.all_append,h2,e]
   simp [h1]
 rw [List.all_eq_false];exact ⟨x,by rw [←e];exact List.getElem_mem hj,by simp [h1]⟩
theorem aW (w:World) (E:TypeId) (a0 a1 a3:Option Addr) (n0 c0 n1 c1 n3 c3:Nat) (ss:List (List Int)) (cs:List (Int×List Int)) (f:Bool) (bs:List Int) (h0:aT.Rd w [.slice a0 n0 c0] ss) (h1:(aU E).Rd w [.slice a1 n1 c1] cs) (h3:aA.Rd w [.slice a3 n3 c3] bs) (hw:aQ (ss,cs,f,bs)<=2097152):
 Calls Tryz.prog 196 #[.agg #[.slice a0 n0 c0,.slice a1 n1 c1,.bool f,.slice a3 n3 c3]] w fun e w'=>e=.returned (.bool (bp ss cs bs))/\Below w.heap.size w w':=by
 obtain ⟨hl0,_,hm0⟩:=af h0;obtain ⟨hl1,_,hm1⟩:=af h1;obtain ⟨hl3,_,hm3⟩:=af h3;have hw0:cP ss<=2097152:=by unfold aQ at hw;simp only at hw;omega
 have hw1:bh cs<=2097152:=by unfold aQ at hw;simp only at hw;omega
 have hw3:n3<=2097152:=by unfold aQ at hw;simp only at hw;omega
 have hn0:n0<=2097152:=by unfold cP at hw0;omega
 have hn1:n1<=2097152:=by unfold bh at hw1;omega
 have hA:Below w.heap.size w (w.alloc (.cells #[.slice a0 n0 c0,.slice a1 n1 c1,.bool f,.slice a3 n3 c3] 101)):=(Below.refl _ _).alloc (Nat.le_refl _) _;have hcell:∀j v,(#[Value.slice a0 n0 c0,.slice a1 n1 c1,.bool f,.slice a3 n3 c3])[j]?=some v->(w.alloc (.cells #[.slice a0 n0 c0,.slice a1 n1 c1,.bool f,.slice a3 n3 c3] 101)).cell? ⟨w.heap.size,j,none⟩=some v:=by
  intro j v hv;rw [cell_of_row _ w.heap.size j _ _ (0,0) (heap_alloc_new w _)];exact hv
 have k0:=hcell 0 _ rfl;have k1:=hcell 1 _ rfl;have k3:=hcell 3 _ rfl;have g0:=h0.below hA;have g1:=h1.below hA;have g3:=h3.below hA;have hz:w.heap.size<(w.alloc (.cells #[.slice a0 n0 c0,.slice a1 n1 c1,.bool f,.slice a3 n3 c3] 101)).heap.size:=by simp
 go_enter Tryz.func196,Tryz.ntmps196
 go_wp2
 generalize hW:w.alloc (.cells #[.slice a0 n0 c0,.slice a1 n1 c1,.bool f,.slice a3 n3 c3] 101)=W at hA k0 k1 k3 g0 g1 g3 hz ⊢;clear hW hcell h0 h1 h3;go_loopw [4] (fun i wr=>∃j:Nat,j<=n0/\i=.int .i64 j/\(ss.take j).all da=true/\aN W wr) (fun i _=>n0-(intOf i).toNat)
 case atStart=>exact ⟨0,Nat.zero_le _,rfl,rfl,aN.refl _⟩
 obtain ⟨j,hj,rfl,ht,hs⟩:=hrel;have q0:=(hs.cell _).trans k0;by_cases hjn:j<n0
 . rcases ii rfl g0 with h0'|⟨b,off,rfl,hbl,hcs⟩
   . omega
   have hdj:ss[j]?=some (ss[j]'(by omega)):=List.getElem?_eq_getElem (by omega);generalize ss[j]'(by omega)=x at hdj;have hal:=jL (p:=da) hdj;have hil:=fQ hdj;obtain ⟨v,hv,hrv⟩:=hcs j x hdj;obtain ⟨av,cv,rfl⟩:=az hrv;have q1:=(hs.cell ⟨b,off+j,none⟩).trans hv;obtain ⟨r1,_,_,_⟩:=aP (hrv.same hs);have HT:=aa ht;clear hcs hdj hv hrv ht;by_cases hx:da x=true
   . have HD:=aa (hal.1 hx HT.out)
     clear hal;go_wp2_with fail
     refine (dY _ _ _ _ x rfl r1 (by omega)).mono ?_
     rintro e w1 ⟨rfl,hs1⟩;go_wp2
     go_roundw
     case rel=>exact ⟨j+1,by omega,by go_num,HD.out,hs.trans hs1⟩
     case measure=>simp [intOf];omega
   have hx:da x=false:=by simpa using hx
   have HN:=aa (hal.2 hx);clear hal;go_wp2_with fail
   refine (dY _ _ _ _ x rfl r1 (by omega)).mono ?_
   rintro e w1 ⟨rfl,hs1⟩;go_wp2
   go_ret
   exact ⟨ag (by unfold bp;rw [HN.out];rfl),Below.andSame (Below.andSame hA hs) hs1⟩
 have e:j=n0:=by omega
 subst e;rw [List.take_of_length_le (by omega)] at ht;have HS0:=aa ht;have hss:ss.length=j:=hl0;clear ht hj hjn q0;go_wp2
 go_loopw [5] (fun i wr=>∃i2:Nat,i2<=n1/\i=.int .i64 i2/\(cs.take i2).all (wrB j)=true/\aN W wr) (fun i _=>n1-(intOf i).toNat)
 case atStart=>exact ⟨0,Nat.zero_le _,rfl,rfl,hs⟩
 clear hs;obtain ⟨i2,hi2,rfl,ht,hs⟩:=hrel;have q1:=(hs.cell _).trans k1;by_cases hin:i2<n1
 . rcases cY rfl g1 with h0'|⟨b,off,rfl,hbl,hcs⟩
   . omega
   have hdj:cs[i2]?=some (cs[i2]'(by omega)):=List.getElem?_eq_getElem (by omega);generalize cs[i2]'(by omega)=x at hdj;have hal:=jL (p:=wrB j) hdj;have hil:=cE hdj;obtain ⟨v0,v1,hv0,hv1,hrv⟩:=hcs i2 x hdj;obtain ⟨rfl,hrv'⟩:=eI hrv;obtain ⟨av,cv,rfl⟩:=az hrv';have p0:=(hs.cell ⟨b,off+i2*2,none⟩).trans hv0;have p1:=(hs.cell ⟨b,off+i2*2+1,none⟩).trans hv1;obtain ⟨r1,_,_,_⟩:=aP (hrv'.same hs);obtain ⟨x0,x1⟩:=x;simp only at p0 p1 r1 hil
   have HT:=aa ht;clear hcs hdj hv0 hv1 hrv hrv' ht;by_cases hI:inB x0 0 ((j:Int)-1)=true
   . by_cases hx:da x1=true
     . have HD:=aa (hal.1 (by unfold wrB;simp only;rw [hI,hx];rfl) HT.out)
       clear hal;go_wp2_with fail
       refine (aE _ _ _ _).mono ?_
       rintro e w1 ⟨rfl,hw1'⟩;subst w1;go_wp2_with fail
       refine (dY _ _ _ _ x1 rfl r1 (by omega)).mono ?_
       rintro e w2 ⟨rfl,hs2⟩;go_wp2
       go_roundw
       case rel=>exact ⟨i2+1,by omega,by go_num,HD.out,hs.trans hs2⟩
       case measure=>simp [intOf];omega
     have hx:da x1=false:=by simpa using hx
     have HN:=aa (hal.2 (by unfold wrB;simp only;rw [hI,hx];rfl));clear hal;go_wp2_with fail
     refine (aE _ _ _ _).mono ?_
     rintro e w1 ⟨rfl,hw1'⟩;subst w1;go_wp2_with fail
     refine (dY _ _ _ _ x1 rfl r1 (by omega)).mono ?_
     rintro e w2 ⟨rfl,hs2⟩;go_wp2
     go_ret
     exact ⟨ag (by unfold bp;rw [hss,HN.out,HS0.out];rfl),Below.andSame (Below.andSame hA hs) hs2⟩
   have hI:inB x0 0 ((j:Int)-1)=false:=by simpa using hI
   have HN:=aa (hal.2 (by unfold wrB;simp only;rw [hI];rfl));clear hal;go_wp2_with fail
   refine (aE _ _ _ _).mono ?_
   rintro e w1 ⟨rfl,hw1'⟩;subst w1;go_wp2
   go_ret
   exact ⟨ag (by unfold bp;rw [hss,HN.out,HS0.out];rfl),Below.andSame hA hs⟩
 have e2:i2=n1:=by omega
 subst e2;rw [List.take_of_length_le (by omega)] at ht;have HS1:=aa ht;have hcsl:cs.length=i2:=hl1;clear ht hi2 hin;go_wp2
 go_loopw [6] (fun i wr=>∃i3:Nat,i3<=n3/\i=.int .i64 i3/\(List.range i3).all (dA j bs)=true/\aN W wr) (fun i _=>n3-(intOf i).toNat)
 case atStart=>exact ⟨0,Nat.zero_le _,rfl,rfl,hs⟩
 clear hs;obtain ⟨i3,hi3,rfl,ht,hs⟩:=hrel;have q3:=(hs.cell _).trans k3;by_cases hi3n:i3<n3
 . obtain ⟨R3,_,_,_⟩:=aP g3
   rcases R3.cases with h0'|⟨b,off,rfl,hbl,hcs⟩
   . omega
   have p0:=(hs.cell ⟨b,off+i3,none⟩).trans (hcs i3 (by omega));have HT:=aa ht;have hrs:(List.range (i3+1)).all (dA j bs)=((List.range i3).all (dA j bs)&&dA j bs i3):=by rw [List.range_succ,List.all_append];simp
   have hrn:dA j bs i3=false->ik j bs=false:=by
    intro h;unfold ik;rw [List.all_eq_false];exact ⟨i3,by simp;omega,by simp [h]⟩
   have hbd:dA j bs i3=(inB (bs.getD i3 0) 0 ((j:Int)-1)&&(decide (i3=0)||decide (bs.getD (i3-1) 0<bs.getD i3 0))):=rfl;have i1:(0:Int)<=(i3:Int):=by omega
   have i2':(i3:Int)<(n3:Int):=by omega
   have gw:IntKind.i64.wrap ((j:Int)-1)=(j:Int)-1:=IntWalk.i64_in _ (by omega);by_cases hI:inB (bs.getD i3 0) 0 ((j:Int)-1)=true
   . by_cases hz3:i3=0
     . have HD:Hid ((List.range (i3+1)).all (dA j bs)=true):=by unfold Hid;rw [hrs,HT.out,hbd,hI,decide_eq_true hz3];rfl
       generalize bs.getD i3 0=y at p0 hI;have d0:decide ((0:Int)<(i3:Int))=false:=decide_eq_false (by omega);have d0b:decide (0<i3)=false:=decide_eq_false (by omega);have HZ:=aa hz3;clear hcs ht hrs hrn hbd hz3 R3;go_wp2_with fail
       go_quiet ((go_at_call 122;exact Calls.quiet_of_same (aE _ _ _ _)))
       go_wp2
       go_roundw
       case rel=>exact ⟨i3+1,by omega,by go_num,HD.out,hs.drewN _⟩
       case measure=>simp [intOf];omega
     have p1:=(hs.cell ⟨b,off+(i3-1),none⟩).trans (hcs (i3-1) (by omega));have d0:decide ((0:Int)<(i3:Int))=true:=decide_eq_true (by omega);have d0b:decide (0<i3)=true:=decide_eq_true (by omega);have gv:IntKind.i64.wrap ((i3:Int)-1)=(i3:Int)-1:=IntWalk.i64_in _ (by omega);have gt:((i3:Int)-1).toNat=i3-1:=by omega
     have i3a:(0:Int)<=(i3:Int)-1:=by omega
     have i3b:(i3:Int)-1<(n3:Int):=by omega
     by_cases hlt:bs.getD (i3-1) 0<bs.getD i3 0
     . have HD:Hid ((List.range (i3+1)).all (dA j bs)=true):=by unfold Hid;rw [hrs,HT.out,hbd,hI,decide_eq_true hlt];simp
       generalize bs.getD i3 0=y at p0 hI hlt;generalize bs.getD (i3-1) 0=z at p1 hlt;have d1:¬y<=z:=by omega
       clear hcs ht hrs hrn hbd hz3 R3;go_wp2_with fail
       go_quiet ((go_at_call 122;exact Calls.quiet_of_same (aE _ _ _ _)))
       go_wp2
       go_roundw
       case rel=>exact ⟨i3+1,by omega,by go_num,HD.out,hs.drewN _⟩
       case measure=>simp [intOf];omega
     have HN:=aa (hrn (by rw [hbd,hI,decide_eq_false hz3,decide_eq_false hlt];rfl));generalize bs.getD i3 0=y at p0 hI hlt;generalize bs.getD (i3-1) 0=z at p1 hlt;have d1:y<=z:=by omega
     clear hcs ht hrs hrn hbd hz3 R3;go_wp2_with fail
     go_quiet ((go_at_call 122;exact Calls.quiet_of_same (aE _ _ _ _)))
     go_wp2
     go_ret
     exact ⟨ag (by unfold bp;rw [hss,HN.out,HS1.out,HS0.out];rfl),Below.andSame hA (hs.drewN _)⟩
   have hI:inB (bs.getD i3 0) 0 ((j:Int)-1)=false:=by simpa using hI
   have HN:=aa (hrn (by rw [hbd,hI];rfl));generalize bs.getD i3 0=y at p0 hI;clear hcs ht hrs hrn hbd R3;go_wp2_with fail
   go_quiet ((go_at_call 122;exact Calls.quiet_of_same (aE _ _ _ _)))
   go_wp2
   go_ret
   exact ⟨ag (by unfold bp;rw [hss,HN.out,HS1.out,HS0.out];rfl),Below.andSame hA (hs.drewN _)⟩
 have e3:i3=n3:=by omega
 have HB:Hid (ik j bs=true):=by unfold Hid ik;rw [hl3,←e3];exact ht
 clear ht hi3;have q1:=(hs.cell _).trans k1;by_cases hI:inB (j:Int) 1 20=true
 . by_cases h60:(i2:Int)<=60
   . have h60':i2<=60:=by omega
     have H60:=aa (decide_eq_true h60');clear h60';go_wp2_with fail
     refine (aE _ _ _ _).mono ?_
     rintro e w1 ⟨rfl,hw1'⟩;subst w1;go_wp2
     go_ret
     exact ⟨ag (by unfold bp;rw [hss,hcsl,HB.out,HS1.out,HS0.out,hI,H60.out];rfl),Below.andSame hA hs⟩
   have h60':¬i2<=60:=by omega
   have H60:=aa (decide_eq_false h60');clear h60';go_wp2_with fail
   refine (aE _ _ _ _).mono ?_
   rintro e w1 ⟨rfl,hw1'⟩;subst w1;go_wp2
   go_ret
   exact ⟨ag (by unfold bp;rw [hss,hcsl,HB.out,HS1.out,HS0.out,hI,H60.out,decide_eq_false (by omega)];rfl),Below.andSame hA hs⟩
 have hI:inB (j:Int) 1 20=false:=by simpa using hI
 go_wp2_with fail
 refine (aE _ _ _ _).mono ?_
 rintro e w1 ⟨rfl,hw1'⟩;subst w1;go_wp2
 go_ret
 exact ⟨ag (by unfold bp;rw [hss,HB.out,HS1.out,HS0.out,hI];rfl),Below.andSame hA hs⟩
def kR {α:Type} (p:Nat->α->Bool) (l:List α):Bool:=(List.range l.length).all fun i=>(l[i]?.map (p i)).getD true
theorem dy {α:Type} {p:Nat->α->Bool} {l:List α}:kR p l=true ↔ ∀(i:Nat) (x:α),l[i]?=some x->p i x=true:=by
 unfold kR;rw [List.all_eq_true];constructor
 . intro h i x hx
   have:=h i (by rw [List.mem_range];exact (List.getElem?_eq_some_iff.1 hx).1);rw [hx] at this;simpa using this
 intro h i hi;cases hx:l[i]? with
 | none=>rfl
 | some x=>simpa using h i x hx
theorem fW {α:Type} {p:Nat->α->Bool} {l:List α} {i:Nat} {x:α} (hx:l[i]?=some x) (h:p i x=false):kR p l=false:=by
 cases hb:kR p l with
 | false=>rfl
 | true=>rw [dy.1 hb i x hx] at h;cases h
def di (x:al) (i:Nat) (m:ai):Bool:=bp m.1 m.2.1 m.2.2.2&&(decide ((m.1.length:Int)=6+x.s)&&(!m.2.2.1||(decide ((i:Int)=x.lost)||x.vH)))
def cJ (x:al) (ms:List ai):Bool:=kR (di x) ms&&decide ((ms.length:Int)=x.n)
def dj (x:al) (ds:List (Int×List Int)) (i:Nat) (e:Int×List Int):Bool:=inB e.1 0 (x.s-1)&&(decide ((e.2.length:Int)=x.n-1)&&(cG e.2&&(decide (i=0)||decide ((ds.getD (i-1) (0,[])).1<e.1))))
def dZ (x:al) (ds:List (Int×List Int)):Bool:=kR (dj x ds) ds
def dq (x:al):Bool:=inB x.lost (-1) (x.n-1)&&(inB x.vG 0 x.s&&(!decide (x.lost=-1)||decide (x.vG=0)))
def dB (x:al):Bool:=inB x.tail 0 60000&&(inB x.seq x.tail 60000&&(decide (x.seq<=x.tail+4)&&(inB x.gen 0 60000&&inB x.vI (-1) 1000)))
def aZ (x:al) (ms:List ai) (ds:List (Int×List Int)):Bool:=bF x.n x.s&&(inB x.id 1 60000&&(cJ x ms&&(dZ x ds&&(dq x&&dB x))))
theorem ek (w:World) (n s:Int) (hs:1<=s/\s<=8):Calls Tryz.prog 203 #[.agg #[.int .i64 n,.int .i64 s]] w fun e w'=>e=.returned (.int .i64 (6+s))/\Below w.heap.size w w':=by
 have hA:=ae w (.cells #[.int .i64 n,.int .i64 s] 25);obtain ⟨k0,k1⟩:=(bL.new w 25 n s).cells;have hw:IntKind.i64.wrap (6+s)=6+s:=IntWalk.i64_in _ (by omega);go_enter Tryz.func203,Tryz.ntmps203
 go_wp2
 go_ret
 exact ⟨rfl,hA⟩
theorem qK (w:World) (E F:TypeId) (x:al) (am ad:Option Addr) (nm cm nd cd:Nat) (ms:List ai) (h0:(bt E F).Rd w [.slice am nm cm] ms) (hw:aV ms<=2097152) (hg:bF x.n x.s=true):
 Calls Tryz.prog 176 #[.agg #[.int .i64 x.id,.int .i64 x.n,.int .i64 x.s,.slice am nm cm,.int .i64 x.lost,.int .i64 x.vG,.int .i64 x.seq,.int .i64 x.tail,.int .i64 x.gen,.slice ad nd cd,.int .i64 x.vI,.bool x.down,.bool x.vH]] w fun e w'=>e=.returned (.bool (cJ x ms))/\Below w.heap.size w w':=by
 obtain ⟨hl,hc,hm⟩:=af h0;obtain ⟨g1,g2,g3,g4⟩:=aB.1 hg;have hA:=ae w (.cells #[.int .i64 x.id,.int .i64 x.n,.int .i64 x.s,.slice am nm cm,.int .i64 x.lost,.int .i64 x.vG,.int .i64 x.seq,.int .i64 x.tail,.int .i64 x.gen,.slice ad nd cd,.int .i64 x.vI,.bool x.down,.bool x.vH] 29);have X:=Box.new w 29 #[.int .i64 x.id,.int .i64 x.n,.int .i64 x.s,.slice am nm cm,.int .i64 x.lost,.int .i64 x.vG,.int .i64 x.seq,.int .i64 x.tail,.int .i64 x.gen,.slice ad nd cd,.int .i64 x.vI,.bool x.down,.bool x.vH];have zA:=X.lt;have hnm:nm<=2097152:=by unfold aV at hw;omega
 have h1:=h0.below hA;go_enter Tryz.func176,Tryz.ntmps176
 go_wp2
 generalize w.alloc (.cells #[.int .i64 x.id,.int .i64 x.n,.int .i64 x.s,.slice am nm cm,.int .i64 x.lost,.int .i64 x.vG,.int .i64 x.seq,.int .i64 x.tail,.int .i64 x.gen,.slice ad nd cd,.int .i64 x.vI,.bool x.down,.bool x.vH] 29)=W at hA X zA h1 ⊢;go_loopw [3] (fun i wr=>∃j:Nat,j<=nm/\i=.int .i64 j/\(∀(q:Nat) (m:ai),q<j->ms[q]?=some m->di x q m=true)/\Below W.heap.size W wr) (fun i _=>nm-(intOf i).toNat)
 case atStart=>exact ⟨0,Nat.zero_le _,rfl,fun q m hq=>by omega,Below.refl _ _⟩
 obtain ⟨j,hj,rfl,hall,hb⟩:=hrel;have Xr:=X.below hb zA;obtain ⟨k0,k1,k2,k3,k4,k5,k6,k7,k8,k9,k10,k11,k12⟩:=Xr.cells13;by_cases hjn:j<nm
 . rcases dW rfl h1 with h0'|⟨b,off,rfl,hbl,hcs⟩
   . omega
   have hdj:ms[j]?=some (ms[j]'(by omega)):=List.getElem?_eq_getElem (by omega);generalize ms[j]'(by omega)=m at hdj;obtain ⟨v0,v1,v2,v3,hv0,hv1,hv2,hv3,hrv⟩:=hcs j m hdj;obtain ⟨a0,c0,a1,c1,a3,c3,ss,cs,f,bs,rfl,rfl,rfl,rfl,rfl,r0,r1,r3⟩:=fR hrv;have u0:=(hb.cell (p:=⟨b,off+j*4,none⟩) hbl).trans hv0;have u1:=(hb.cell (p:=⟨b,off+j*4+1,none⟩) hbl).trans hv1;have u2:=(hb.cell (p:=⟨b,off+j*4+2,none⟩) hbl).trans hv2;have u3:=(hb.cell (p:=⟨b,off+j*4+3,none⟩) hbl).trans hv3;have i1:(0:Int)<=(j:Int):=by omega
   have i2:(j:Int)<(nm:Int):=by omega
   have hwm:=Nat.le_trans (eN hdj) hw;have HDJ:=aa hdj;clear hcs hv0 hv1 hv2 hv3 hrv hdj;have b1:=ae wr (.cells #[.slice a0 ss.length c0,.slice a1 cs.length c1,.bool f,.slice a3 bs.length c3] 101);have Y1:=Box.new wr 101 #[.slice a0 ss.length c0,.slice a1 cs.length c1,.bool f,.slice a3 bs.length c3];have X1:=Xr.below b1 Xr.lt;have R0:=(r0.below hb).below b1;have R1:=(r1.below hb).below b1;have R3:=(r3.below hb).below b1;have B1:=hb.trans (b1.mono hb.size);clear r0 r1 r3 b1;obtain ⟨y0,y1,y2,y3⟩:=Y1.cells4;obtain ⟨e0,e1,e2,e3,e4,e5,e6,e7,e8,e9,e10,e11,e12⟩:=X1.cells13;have zy:=Y1.lt;have zx:=X1.lt;clear e0 e3 e5 e6 e7 e8 e9 e10 e11;cases hM:bp ss cs bs
   . skip
     go_wp2_with fail
     generalize wr.alloc (.cells #[.slice a0 ss.length c0,.slice a1 cs.length c1,.bool f,.slice a3 bs.length c3] 101)=w1 at X1 Y1 R0 R1 R3 B1 y0 y1 y2 y3 e1 e2 e4 e12 zy zx ⊢;refine wp_region_held_drew (S:=fun w'=>w'.cell? ⟨wr.heap.size,0,none⟩=some (.slice a0 ss.length c0)/\w'.cell? ⟨wr.heap.size,1,none⟩=some (.slice a1 cs.length c1)/\w'.cell? ⟨wr.heap.size,2,none⟩=some (.bool f)/\w'.cell? ⟨wr.heap.size,3,none⟩=some (.slice a3 bs.length c3)/\w'.cell? ⟨w.heap.size,1,none⟩=some (.int .i64 x.n)/\w'.cell? ⟨w.heap.size,2,none⟩=some (.int .i64 x.s)/\w'.cell? ⟨w.heap.size,4,none⟩=some (.int .i64 x.lost)/\w'.cell? ⟨w.heap.size,12,none⟩=some (.bool x.vH)) (by kernel_rfl) ?_ (fun vF=>?_)
     . exact ⟨y0,y1,y2,y3,e1,e2,e4,e12⟩
     refine ab 0 vF ?_
     refine aq (i:=1) (by kernel_rfl) rfl (by kernel_rfl) (fun K hK=>?_)
     go_simp
     refine (aW _ E _ _ _ _ _ _ _ _ _ ss cs f bs R0.drew R1.drew R3.drew hwm).mono ?_
     rintro e w2 ⟨rfl,b2⟩;rw [hM];have b2':Below w1.heap.size w1 w2:=(Below.refl w1.heap.size w1).drew.trans b2;clear b2;go_wp2_with fail
     clear vF;refine hK.out _ _ ?_ (fun vF=>?_)
     . exact ⟨(b2'.cell (p:=⟨wr.heap.size,0,none⟩) zy).trans y0,(b2'.cell (p:=⟨wr.heap.size,1,none⟩) zy).trans y1,(b2'.cell (p:=⟨wr.heap.size,2,none⟩) zy).trans y2,(b2'.cell (p:=⟨wr.heap.size,3,none⟩) zy).trans y3,(b2'.cell (p:=⟨w.heap.size,1,none⟩) zx).trans e1,(b2'.cell (p:=⟨w.heap.size,2,none⟩) zx).trans e2,(b2'.cell (p:=⟨w.heap.size,4,none⟩) zx).trans e4,(b2'.cell (p:=⟨w.heap.size,12,none⟩) zx).trans e12⟩
     clear hK K;refine ab 2 vF ?_
     refine ab 3 vF ?_
     refine ao 4 vF ?_
     refine ao 5 vF ?_
     refine ao 6 vF ?_
     refine ao 7 vF ?_
     refine ao 8 vF ?_
     refine fN (i:=9) (by kernel_rfl) rfl (by kernel_rfl) vF ?_
     simp only [Act.put,List.setIfInBounds_toArray,List.set_cons_zero,List.set_cons_succ]
     refine ao 10 vF ?_
     refine ab 11 vF ?_
     refine ab 12 vF ?_
     refine ao 13 vF ?_
     refine ao 14 vF ?_
     refine ao 15 vF ?_
     refine ao 16 vF ?_
     refine ao 17 vF ?_
     refine ao 18 vF ?_
     refine ao 19 vF ?_
     refine ao 20 vF ?_
     refine ao 21 vF ?_
     refine ao 22 vF ?_
     refine ao 23 vF ?_
     refine ao 24 vF ?_
     refine ao 25 vF ?_
     refine ab 26 vF ?_
     refine wpAnyH_done (by kernel_rfl) ?_ _
     clear vF;have HB:=aa (hA.trans ((B1.trans (b2'.mono B1.size)).mono hA.size));go_wp2
     go_ret
     exact ⟨ag (by rw [show cJ x ms=false from (by unfold cJ;rw [fW HDJ.out (by unfold di;simp [hM])];rfl)]),HB.out⟩
   by_cases hS:(ss.length:Int)=6+x.s
   . have hS1:((ss.length:Int)==6+x.s)=true:=by simpa using hS
     have hS2:((ss.length:Int) !=6+x.s)=false:=by simpa using hS
     have HS:=aa hS;clear hS;cases f
     . skip
       go_wp2_with fail
       generalize wr.alloc (.cells #[.slice a0 ss.length c0,.slice a1 cs.length c1,.bool false,.slice a3 bs.length c3] 101)=w1 at X1 Y1 R0 R1 R3 B1 y0 y1 y2 y3 e1 e2 e4 e12 zy zx ⊢;refine wp_region_held_drew (S:=fun w'=>w'.cell? ⟨wr.heap.size,0,none⟩=some (.slice a0 ss.length c0)/\w'.cell? ⟨wr.heap.size,1,none⟩=some (.slice a1 cs.length c1)/\w'.cell? ⟨wr.heap.size,2,none⟩=some (.bool false)/\w'.cell? ⟨wr.heap.size,3,none⟩=some (.slice a3 bs.length c3)/\w'.cell? ⟨w.heap.size,1,none⟩=some (.int .i64 x.n)/\w'.cell? ⟨w.heap.size,2,none⟩=some (.int .i64 x.s)/\w'.cell? ⟨w.heap.size,4,none⟩=some (.int .i64 x.lost)/\w'.cell? ⟨w.heap.size,12,none⟩=some (.bool x.vH)) (by kernel_rfl) ?_ (fun vF=>?_)
       . exact ⟨y0,y1,y2,y3,e1,e2,e4,e12⟩
       refine ab 0 vF ?_
       refine aq (i:=1) (by kernel_rfl) rfl (by kernel_rfl) (fun K hK=>?_)
       go_simp
       refine (aW _ E _ _ _ _ _ _ _ _ _ ss cs false bs R0.drew R1.drew R3.drew hwm).mono ?_
       rintro e w2 ⟨rfl,b2⟩;rw [hM];have b2':Below w1.heap.size w1 w2:=(Below.refl w1.heap.size w1).drew.trans b2;clear b2;go_wp2_with fail
       clear vF;refine hK.out _ _ ?_ (fun vF=>?_)
       . exact ⟨(b2'.cell (p:=⟨wr.heap.size,0,none⟩) zy).trans y0,(b2'.cell (p:=⟨wr.heap.size,1,none⟩) zy).trans y1,(b2'.cell (p:=⟨wr.heap.size,2,none⟩) zy).trans y2,(b2'.cell (p:=⟨wr.heap.size,3,none⟩) zy).trans y3,(b2'.cell (p:=⟨w.heap.size,1,none⟩) zx).trans e1,(b2'.cell (p:=⟨w.heap.size,2,none⟩) zx).trans e2,(b2'.cell (p:=⟨w.heap.size,4,none⟩) zx).trans e4,(b2'.cell (p:=⟨w.heap.size,12,none⟩) zx).trans e12⟩
       clear hK K;refine ab 2 vF ?_
       refine ab 3 vF ?_
       refine ab 4 vF ?_
       refine ab 5 vF ?_
       refine ab 6 vF ?_
       refine ab 7 vF ?_
       refine ab 8 vF ?_
       refine aq (i:=9) (by kernel_rfl) rfl (by kernel_rfl) (fun K hK=>?_)
       go_simp
       refine (ek _ x.n x.s ⟨g3,g4⟩).mono ?_
       rintro e w3 ⟨rfl,b3⟩;have b3':Below w1.heap.size w1 w3:=Below.andThen b2' b3;clear b3;go_wp2_with fail
       clear vF;refine hK.out _ _ ?_ (fun vF=>?_)
       . exact ⟨(b3'.cell (p:=⟨wr.heap.size,0,none⟩) zy).trans y0,(b3'.cell (p:=⟨wr.heap.size,1,none⟩) zy).trans y1,(b3'.cell (p:=⟨wr.heap.size,2,none⟩) zy).trans y2,(b3'.cell (p:=⟨wr.heap.size,3,none⟩) zy).trans y3,(b3'.cell (p:=⟨w.heap.size,1,none⟩) zx).trans e1,(b3'.cell (p:=⟨w.heap.size,2,none⟩) zx).trans e2,(b3'.cell (p:=⟨w.heap.size,4,none⟩) zx).trans e4,(b3'.cell (p:=⟨w.heap.size,12,none⟩) zx).trans e12⟩
       clear hK K;refine ab 10 vF ?_
       refine ab 11 vF ?_
       refine ab 12 vF ?_
       refine ab 13 vF ?_
       refine ab 14 vF ?_
       refine ab 15 vF ?_
       refine ao 16 vF ?_
       refine ao 17 vF ?_
       refine ao 18 vF ?_
       refine ao 19 vF ?_
       refine ab 20 vF ?_
       refine ab 21 vF ?_
       refine ao 22 vF ?_
       refine ao 23 vF ?_
       refine ao 24 vF ?_
       refine ab 25 vF ?_
       refine ab 26 vF ?_
       refine wpAnyH_done (by kernel_rfl) ?_ _
       clear vF;have HB:=aa (B1.trans (b3'.mono B1.size));have hat:di x j (ss,cs,false,bs)=true:=(by unfold di;simp [hM,HS.out]);go_wp2
       go_roundw
       case rel=>exact ⟨j+1,by omega,by go_num,fun q m hq hm'=>by
        rcases Nat.lt_or_ge q j with h|h
        . exact hall q m h hm'
        obtain rfl:q=j:=by omega
        rw [HDJ.out] at hm';cases hm';exact hat,HB.out⟩
       case measure=>simp [intOf];omega
     by_cases hL:(j:Int)=x.lost
     . have hL1:((j:Int)==x.lost)=true:=by simpa using hL
       have hL2:((j:Int) !=x.lost)=false:=by simpa using hL
       have HL:=aa hL;clear hL;go_wp2_with fail
       generalize wr.alloc (.cells #[.slice a0 ss.length c0,.slice a1 cs.length c1,.bool true,.slice a3 bs.length c3] 101)=w1 at X1 Y1 R0 R1 R3 B1 y0 y1 y2 y3 e1 e2 e4 e12 zy zx ⊢;refine wp_region_held_drew (S:=fun w'=>w'.cell? ⟨wr.heap.size,0,none⟩=some (.slice a0 ss.length c0)/\w'.cell? ⟨wr.heap.size,1,none⟩=some (.slice a1 cs.length c1)/\w'.cell? ⟨wr.heap.size,2,none⟩=some (.bool true)/\w'.cell? ⟨wr.heap.size,3,none⟩=some (.slice a3 bs.length c3)/\w'.cell? ⟨w.heap.size,1,none⟩=some (.int .i64 x.n)/\w'.cell? ⟨w.heap.size,2,none⟩=some (.int .i64 x.s)/\w'.cell? ⟨w.heap.size,4,none⟩=some (.int .i64 x.lost)/\w'.cell? ⟨w.heap.size,12,none⟩=some (.bool x.vH)) (by kernel_rfl) ?_ (fun vF=>?_)
       . exact ⟨y0,y1,y2,y3,e1,e2,e4,e12⟩
       refine ab 0 vF ?_
       refine aq (i:=1) (by kernel_rfl) rfl (by kernel_rfl) (fun K hK=>?_)
       go_simp
       refine (aW _ E _ _ _ _ _ _ _ _ _ ss cs true bs R0.drew R1.drew R3.drew hwm).mono ?_
       rintro e w2 ⟨rfl,b2⟩;rw [hM];have b2':Below w1.heap.size w1 w2:=(Below.refl w1.heap.size w1).drew.trans b2;clear b2;go_wp2_with fail
       clear vF;refine hK.out _ _ ?_ (fun vF=>?_)
       . exact ⟨(b2'.cell (p:=⟨wr.heap.size,0,none⟩) zy).trans y0,(b2'.cell (p:=⟨wr.heap.size,1,none⟩) zy).trans y1,(b2'.cell (p:=⟨wr.heap.size,2,none⟩) zy).trans y2,(b2'.cell (p:=⟨wr.heap.size,3,none⟩) zy).trans y3,(b2'.cell (p:=⟨w.heap.size,1,none⟩) zx).trans e1,(b2'.cell (p:=⟨w.heap.size,2,none⟩) zx).trans e2,(b2'.cell (p:=⟨w.heap.size,4,none⟩) zx).trans e4,(b2'.cell (p:=⟨w.heap.size,12,none⟩) zx).trans e12⟩
       clear hK K;refine ab 2 vF ?_
       refine ab 3 vF ?_
       refine ab 4 vF ?_
       refine ab 5 vF ?_
       refine ab 6 vF ?_
       refine ab 7 vF ?_
       refine ab 8 vF ?_
       refine aq (i:=9) (by kernel_rfl) rfl (by kernel_rfl) (fun K hK=>?_)
       go_simp
       refine (ek _ x.n x.s ⟨g3,g4⟩).mono ?_
       rintro e w3 ⟨rfl,b3⟩;have b3':Below w1.heap.size w1 w3:=Below.andThen b2' b3;clear b3;go_wp2_with fail
       clear vF;refine hK.out _ _ ?_ (fun vF=>?_)
       . exact ⟨(b3'.cell (p:=⟨wr.heap.size,0,none⟩) zy).trans y0,(b3'.cell (p:=⟨wr.heap.size,1,none⟩) zy).trans y1,(b3'.cell (p:=⟨wr.heap.size,2,none⟩) zy).trans y2,(b3'.cell (p:=⟨wr.heap.size,3,none⟩) zy).trans y3,(b3'.cell (p:=⟨w.heap.size,1,none⟩) zx).trans e1,(b3'.cell (p:=⟨w.heap.size,2,none⟩) zx).trans e2,(b3'.cell (p:=⟨w.heap.size,4,none⟩) zx).trans e4,(b3'.cell (p:=⟨w.heap.size,12,none⟩) zx).trans e12⟩
       clear hK K;refine ab 10 vF ?_
       refine ab 11 vF ?_
       refine ab 12 vF ?_
       refine ab 13 vF ?_
       refine ab 14 vF ?_
       refine ab 15 vF ?_
       refine ab 16 vF ?_
       refine ab 17 vF ?_
       refine ab 18 vF ?_
       refine ab 19 vF ?_
       refine ab 20 vF ?_
       refine ab 21 vF ?_
       refine ao 22 vF ?_
       refine ao 23 vF ?_
       refine ao 24 vF ?_
       refine ab 25 vF ?_
       refine ab 26 vF ?_
       refine wpAnyH_done (by kernel_rfl) ?_ _
       clear vF;have HB:=aa (B1.trans (b3'.mono B1.size));have hat:di x j (ss,cs,true,bs)=true:=(by unfold di;simp [hM,HS.out,HL.out]);go_wp2
       go_roundw
       case rel=>exact ⟨j+1,by omega,by go_num,fun q m hq hm'=>by
        rcases Nat.lt_or_ge q j with h|h
        . exact hall q m h hm'
        obtain rfl:q=j:=by omega
        rw [HDJ.out] at hm';cases hm';exact hat,HB.out⟩
       case measure=>simp [intOf];omega
     have hL1:((j:Int)==x.lost)=false:=by simpa using hL
     have hL2:((j:Int) !=x.lost)=true:=by simpa using hL
     have HL:=aa hL;clear hL;cases hBr:x.vH
     . rw [hBr] at e12
       go_wp2_with fail
       generalize wr.alloc (.cells #[.slice a0 ss.length c0,.slice a1 cs.length c1,.bool true,.slice a3 bs.length c3] 101)=w1 at X1 Y1 R0 R1 R3 B1 y0 y1 y2 y3 e1 e2 e4 e12 zy zx ⊢;refine wp_region_held_drew (S:=fun w'=>w'.cell? ⟨wr.heap.size,0,none⟩=some (.slice a0 ss.length c0)/\w'.cell? ⟨wr.heap.size,1,none⟩=some (.slice a1 cs.length c1)/\w'.cell? ⟨wr.heap.size,2,none⟩=some (.bool true)/\w'.cell? ⟨wr.heap.size,3,none⟩=some (.slice a3 bs.length c3)/\w'.cell? ⟨w.heap.size,1,none⟩=some (.int .i64 x.n)/\w'.cell? ⟨w.heap.size,2,none⟩=some (.int .i64 x.s)/\w'.cell? ⟨w.heap.size,4,none⟩=some (.int .i64 x.lost)/\w'.cell? ⟨w.heap.size,12,none⟩=some (.bool false)) (by kernel_rfl) ?_ (fun vF=>?_)
       . exact ⟨y0,y1,y2,y3,e1,e2,e4,e12⟩
       refine ab 0 vF ?_
       refine aq (i:=1) (by kernel_rfl) rfl (by kernel_rfl) (fun K hK=>?_)
       go_simp
       refine (aW _ E _ _ _ _ _ _ _ _ _ ss cs true bs R0.drew R1.drew R3.drew hwm).mono ?_
       rintro e w2 ⟨rfl,b2⟩;rw [hM];have b2':Below w1.heap.size w1 w2:=(Below.refl w1.heap.size w1).drew.trans b2;clear b2;go_wp2_with fail
       clear vF;refine hK.out _ _ ?_ (fun vF=>?_)
       . exact ⟨(b2'.cell (p:=⟨wr.heap.size,0,none⟩) zy).trans y0,(b2'.cell (p:=⟨wr.heap.size,1,none⟩) zy).trans y1,(b2'.cell (p:=⟨wr.heap.size,2,none⟩) zy).trans y2,(b2'.cell (p:=⟨wr.heap.size,3,none⟩) zy).trans y3,(b2'.cell (p:=⟨w.heap.size,1,none⟩) zx).trans e1,(b2'.cell (p:=⟨w.heap.size,2,none⟩) zx).trans e2,(b2'.cell (p:=⟨w.heap.size,4,none⟩) zx).trans e4,(b2'.cell (p:=⟨w.heap.size,12,none⟩) zx).trans e12⟩
       clear hK K;refine ab 2 vF ?_
       refine ab 3 vF ?_
       refine ab 4 vF ?_
       refine ab 5 vF ?_
       refine ab 6 vF ?_
       refine ab 7 vF ?_
       refine ab 8 vF ?_
       refine aq (i:=9) (by kernel_rfl) rfl (by kernel_rfl) (fun K hK=>?_)
       go_simp
       refine (ek _ x.n x.s ⟨g3,g4⟩).mono ?_
       rintro e w3 ⟨rfl,b3⟩;have b3':Below w1.heap.size w1 w3:=Below.andThen b2' b3;clear b3;go_wp2_with fail
       clear vF;refine hK.out _ _ ?_ (fun vF=>?_)
       . exact ⟨(b3'.cell (p:=⟨wr.heap.size,0,none⟩) zy).trans y0,(b3'.cell (p:=⟨wr.heap.size,1,none⟩) zy).trans y1,(b3'.cell (p:=⟨wr.heap.size,2,none⟩) zy).trans y2,(b3'.cell (p:=⟨wr.heap.size,3,none⟩) zy).trans y3,(b3'.cell (p:=⟨w.heap.size,1,none⟩) zx).trans e1,(b3'.cell (p:=⟨w.heap.size,2,none⟩) zx).trans e2,(b3'.cell (p:=⟨w.heap.size,4,none⟩) zx).trans e4,(b3'.cell (p:=⟨w.heap.size,12,none⟩) zx).trans e12⟩
       clear hK K;refine ab 10 vF ?_
       refine ab 11 vF ?_
       refine ab 12 vF ?_
       refine ab 13 vF ?_
       refine ab 14 vF ?_
       refine ab 15 vF ?_
       refine ab 16 vF ?_
       refine ab 17 vF ?_
       refine ab 18 vF ?_
       refine ab 19 vF ?_
       refine ab 20 vF ?_
       refine ab 21 vF ?_
       refine ab 22 vF ?_
       refine ab 23 vF ?_
       refine ab 24 vF ?_
       refine ab 25 vF ?_
       refine ab 26 vF ?_
       refine wpAnyH_done (by kernel_rfl) ?_ _
       clear vF;have HB:=aa (hA.trans ((B1.trans (b3'.mono B1.size)).mono hA.size));go_wp2
       go_ret
       exact ⟨ag (by rw [show cJ x ms=false from (by unfold cJ;rw [fW HDJ.out (by unfold di;simp [HL.out,hBr])];rfl)]),HB.out⟩
     rw [hBr] at e12;go_wp2_with fail
     generalize wr.alloc (.cells #[.slice a0 ss.length c0,.slice a1 cs.length c1,.bool true,.slice a3 bs.length c3] 101)=w1 at X1 Y1 R0 R1 R3 B1 y0 y1 y2 y3 e1 e2 e4 e12 zy zx ⊢;refine wp_region_held_drew (S:=fun w'=>w'.cell? ⟨wr.heap.size,0,none⟩=some (.slice a0 ss.length c0)/\w'.cell? ⟨wr.heap.size,1,none⟩=some (.slice a1 cs.length c1)/\w'.cell? ⟨wr.heap.size,2,none⟩=some (.bool true)/\w'.cell? ⟨wr.heap.size,3,none⟩=some (.slice a3 bs.length c3)/\w'.cell? ⟨w.heap.size,1,none⟩=some (.int .i64 x.n)/\w'.cell? ⟨w.heap.size,2,none⟩=some (.int .i64 x.s)/\w'.cell? ⟨w.heap.size,4,none⟩=some (.int .i64 x.lost)/\w'.cell? ⟨w.heap.size,12,none⟩=some (.bool true)) (by kernel_rfl) ?_ (fun vF=>?_)
     . exact ⟨y0,y1,y2,y3,e1,e2,e4,e12⟩
     refine ab 0 vF ?_
     refine aq (i:=1) (by kernel_rfl) rfl (by kernel_rfl) (fun K hK=>?_)
     go_simp
     refine (aW _ E _ _ _ _ _ _ _ _ _ ss cs true bs R0.drew R1.drew R3.drew hwm).mono ?_
     rintro e w2 ⟨rfl,b2⟩;rw [hM];have b2':Below w1.heap.size w1 w2:=(Below.refl w1.heap.size w1).drew.trans b2;clear b2;go_wp2_with fail
     clear vF;refine hK.out _ _ ?_ (fun vF=>?_)
     . exact ⟨(b2'.cell (p:=⟨wr.heap.size,0,none⟩) zy).trans y0,(b2'.cell (p:=⟨wr.heap.size,1,none⟩) zy).trans y1,(b2'.cell (p:=⟨wr.heap.size,2,none⟩) zy).trans y2,(b2'.cell (p:=⟨wr.heap.size,3,none⟩) zy).trans y3,(b2'.cell (p:=⟨w.heap.size,1,none⟩) zx).trans e1,(b2'.cell (p:=⟨w.heap.size,2,none⟩) zx).trans e2,(b2'.cell (p:=⟨w.heap.size,4,none⟩) zx).trans e4,(b2'.cell (p:=⟨w.heap.size,12,none⟩) zx).trans e12⟩
     clear hK K;refine ab 2 vF ?_
     refine ab 3 vF ?_
     refine ab 4 vF ?_
     refine ab 5 vF ?_
     refine ab 6 vF ?_
     refine ab 7 vF ?_
     refine ab 8 vF ?_
     refine aq (i:=9) (by kernel_rfl) rfl (by kernel_rfl) (fun K hK=>?_)
     go_simp
     refine (ek _ x.n x.s ⟨g3,g4⟩).mono ?_
     rintro e w3 ⟨rfl,b3⟩;have b3':Below w1.heap.size w1 w3:=Below.andThen b2' b3;clear b3;go_wp2_with fail
     clear vF;refine hK.out _ _ ?_ (fun vF=>?_)
     . exact ⟨(b3'.cell (p:=⟨wr.heap.size,0,none⟩) zy).trans y0,(b3'.cell (p:=⟨wr.heap.size,1,none⟩) zy).trans y1,(b3'.cell (p:=⟨wr.heap.size,2,none⟩) zy).trans y2,(b3'.cell (p:=⟨wr.heap.size,3,none⟩) zy).trans y3,(b3'.cell (p:=⟨w.heap.size,1,none⟩) zx).trans e1,(b3'.cell (p:=⟨w.heap.size,2,none⟩) zx).trans e2,(b3'.cell (p:=⟨w.heap.size,4,none⟩) zx).trans e4,(b3'.cell (p:=⟨w.heap.size,12,none⟩) zx).trans e12⟩
     clear hK K;refine ab 10 vF ?_
     refine ab 11 vF ?_
     refine ab 12 vF ?_
     refine ab 13 vF ?_
     refine ab 14 vF ?_
     refine ab 15 vF ?_
     refine ab 16 vF ?_
     refine ab 17 vF ?_
     refine ab 18 vF ?_
     refine ab 19 vF ?_
     refine ab 20 vF ?_
     refine ab 21 vF ?_
     refine ab 22 vF ?_
     refine ab 23 vF ?_
     refine ab 24 vF ?_
     refine ab 25 vF ?_
     refine ab 26 vF ?_
     refine wpAnyH_done (by kernel_rfl) ?_ _
     clear vF;have HB:=aa (B1.trans (b3'.mono B1.size));have hat:di x j (ss,cs,true,bs)=true:=(by unfold di;simp [hM,HS.out,hBr]);go_wp2
     go_roundw
     case rel=>exact ⟨j+1,by omega,by go_num,fun q m hq hm'=>by
      rcases Nat.lt_or_ge q j with h|h
      . exact hall q m h hm'
      obtain rfl:q=j:=by omega
      rw [HDJ.out] at hm';cases hm';exact hat,HB.out⟩
     case measure=>simp [intOf];omega
   have hS1:((ss.length:Int)==6+x.s)=false:=by simpa using hS
   have hS2:((ss.length:Int) !=6+x.s)=true:=by simpa using hS
   have HS:=aa hS;clear hS;go_wp2_with fail
   generalize wr.alloc (.cells #[.slice a0 ss.length c0,.slice a1 cs.length c1,.bool f,.slice a3 bs.length c3] 101)=w1 at X1 Y1 R0 R1 R3 B1 y0 y1 y2 y3 e1 e2 e4 e12 zy zx ⊢;refine wp_region_held_drew (S:=fun w'=>w'.cell? ⟨wr.heap.size,0,none⟩=some (.slice a0 ss.length c0)/\w'.cell? ⟨wr.heap.size,1,none⟩=some (.slice a1 cs.length c1)/\w'.cell? ⟨wr.heap.size,2,none⟩=some (.bool f)/\w'.cell? ⟨wr.heap.size,3,none⟩=some (.slice a3 bs.length c3)/\w'.cell? ⟨w.heap.size,1,none⟩=some (.int .i64 x.n)/\w'.cell? ⟨w.heap.size,2,none⟩=some (.int .i64 x.s)/\w'.cell? ⟨w.heap.size,4,none⟩=some (.int .i64 x.lost)/\w'.cell? ⟨w.heap.size,12,none⟩=some (.bool x.vH)) (by kernel_rfl) ?_ (fun vF=>?_)
   . exact ⟨y0,y1,y2,y3,e1,e2,e4,e12⟩
   refine ab 0 vF ?_
   refine aq (i:=1) (by kernel_rfl) rfl (by kernel_rfl) (fun K hK=>?_)
   go_simp
   refine (aW _ E _ _ _ _ _ _ _ _ _ ss cs f bs R0.drew R1.drew R3.drew hwm).mono ?_
   rintro e w2 ⟨rfl,b2⟩;rw [hM];have b2':Below w1.heap.size w1 w2:=(Below.refl w1.heap.size w1).drew.trans b2;clear b2;go_wp2_with fail
   clear vF;refine hK.out _ _ ?_ (fun vF=>?_)
   . exact ⟨(b2'.cell (p:=⟨wr.heap.size,0,none⟩) zy).trans y0,(b2'.cell (p:=⟨wr.heap.size,1,none⟩) zy).trans y1,(b2'.cell (p:=⟨wr.heap.size,2,none⟩) zy).trans y2,(b2'.cell (p:=⟨wr.heap.size,3,none⟩) zy).trans y3,(b2'.cell (p:=⟨w.heap.size,1,none⟩) zx).trans e1,(b2'.cell (p:=⟨w.heap.size,2,none⟩) zx).trans e2,(b2'.cell (p:=⟨w.heap.size,4,none⟩) zx).trans e4,(b2'.cell (p:=⟨w.heap.size,12,none⟩) zx).trans e12⟩
   clear hK K;refine ab 2 vF ?_
   refine ab 3 vF ?_
   refine ab 4 vF ?_
   refine ab 5 vF ?_
   refine ab 6 vF ?_
   refine ab 7 vF ?_
   refine ab 8 vF ?_
   refine aq (i:=9) (by kernel_rfl) rfl (by kernel_rfl) (fun K hK=>?_)
   go_simp
   refine (ek _ x.n x.s ⟨g3,g4⟩).mono ?_
   rintro e w3 ⟨rfl,b3⟩;have b3':Below w1.heap.size w1 w3:=Below.andThen b2' b3;clear b3;go_wp2_with fail
   clear vF;refine hK.out _ _ ?_ (fun vF=>?_)
   . exact ⟨(b3'.cell (p:=⟨wr.heap.size,0,none⟩) zy).trans y0,(b3'.cell (p:=⟨wr.heap.size,1,none⟩) zy).trans y1,(b3'.cell (p:=⟨wr.heap.size,2,none⟩) zy).trans y2,(b3'.cell (p:=⟨wr.heap.size,3,none⟩) zy).trans y3,(b3'.cell (p:=⟨w.heap.size,1,none⟩) zx).trans e1,(b3'.cell (p:=⟨w.heap.size,2,none⟩) zx).trans e2,(b3'.cell (p:=⟨w.heap.size,4,none⟩) zx).trans e4,(b3'.cell (p:=⟨w.heap.size,12,none⟩) zx).trans e12⟩
   clear hK K;refine ab 10 vF ?_
   refine ab 11 vF ?_
   refine ab 12 vF ?_
   refine ao 13 vF ?_
   refine ao 14 vF ?_
   refine ao 15 vF ?_
   refine ao 16 vF ?_
   refine ao 17 vF ?_
   refine ao 18 vF ?_
   refine ao 19 vF ?_
   refine ao 20 vF ?_
   refine ao 21 vF ?_
   refine ao 22 vF ?_
   refine ao 23 vF ?_
   refine ao 24 vF ?_
   refine ao 25 vF ?_
   refine ab 26 vF ?_
   refine wpAnyH_done (by kernel_rfl) ?_ _
   clear vF;have HB:=aa (hA.trans ((B1.trans (b3'.mono B1.size)).mono hA.size));go_wp2
   go_ret
   exact ⟨ag (by rw [show cJ x ms=false from (by unfold cJ;rw [fW HDJ.out (by unfold di;simp [HS.out])];rfl)]),HB.out⟩
 have e:j=nm:=by omega
 subst e;have hAll:kR (di x) ms=true:=dy.2 (fun q m hq=>hall q m (by have:=(List.getElem?_eq_some_iff.1 hq).1;omega) hq);have HB:=aa (hA.trans (hb.mono hA.size));have hR:cJ x ms=((j:Int)==x.n):=by unfold cJ;rw [hAll,hl];simp [BEq.beq]
 go_wp2
 go_ret
 exact ⟨ag hR.symm,HB.out⟩
end Go.Proofs.YtejeekndbnpmoaaGreat
