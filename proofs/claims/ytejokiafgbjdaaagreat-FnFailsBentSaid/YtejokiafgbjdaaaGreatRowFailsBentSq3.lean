/-
 Plain lemmas on a region that draws its order, by a condition that every operation keeps: it is shown operation by operation, not way by way. No condition; nothing of the program is named here.
-/
import Derived.Test.YtejokiafgbjdaaaGreatRowFailsBentSq1
import Derived.OrdersHeld
import Derived.RegionTactic
import Derived.Test.YtejokiafgbjdaaaGreatRows

set_option maxRecDepth 100000
set_option maxHeartbeats 8000000
set_option linter.unusedSimpArgs false

namespace Go.Proofs.YtejokiafgbjdaaaGreat
open Go.RowKit

theorem cF {t:Ty} {E:TypeId} {w:World} {a:Option Addr} {n cap:Nat} {d:List t.D} (ht:t.n=4) (h:(bH t E).Rd w [.slice a n cap] d):
 n=0∨∃b off,a=some ⟨b,off,none⟩/\b<w.heap.size/\∀i x,d[i]?=some x->∃v0 v1 v2 v3,w.cell? ⟨b,off+i*4,none⟩=some v0/\w.cell? ⟨b,off+i*4+1,none⟩=some v1/\w.cell? ⟨b,off+i*4+2,none⟩=some v2/\w.cell? ⟨b,off+i*4+3,none⟩=some v3/\t.Rd w [v0,v1,v2,v3] x:=by
 obtain ⟨fp,a',cap',hv,h2,h3,h4⟩:=h;simp only [List.cons.injEq,Value.slice.injEq,and_true] at hv
 obtain ⟨rfl,rfl,rfl⟩:=hv;rcases h4 with ⟨h5,_⟩|⟨b,off,fps,h5,h6,_,_,h9⟩
 . exact .inl h5
 refine .inr ⟨b,off,h5,h6,fun i x hx=>?_⟩
 obtain ⟨f,cs,_,hrd,hc⟩:=h9 i x hx;have hl:=t.rdLen hrd;rw [ht] at hl;match cs,hl with
 | [v0,v1,v2,v3],_=>
  refine ⟨v0,v1,v2,v3,?_,?_,?_,?_,f,hrd⟩
  . have:=hc 0 (by omega)
    rw [ht,Nat.add_zero] at this;exact this
  . have:=hc 1 (by omega)
    rw [ht,←Nat.add_assoc] at this;exact this
  . have:=hc 2 (by omega)
    rw [ht,←Nat.add_assoc] at this;exact this
  have:=hc 3 (by omega);rw [ht,←Nat.add_assoc] at this;exact this
def af (P:Program) (ops:Array Oper) (Q:Exit->Act->World->Prop) (S:World->Prop) (k:Nat):Nat->Array Bool->Act->World->Prop
 | 0,l,a,w=>Region.ready .any ops l=[]/\Q .normal a w
 | n+1,l,a,w=>(Region.ready .any ops l=[]->Q .normal a w)/\∀j∈Region.ready .any ops l,wpOp P ops Q j (fun a' w'=>(j≠k->S w')/\af P ops Q S k n (l.setIfInBounds j true) a' w') a w
section
variable {P:Program} {ops:Array Oper} {Q:Exit->Act->World->Prop} {S:World->Prop} {k:Nat}
theorem af.any:∀(n:Nat) (l:Array Bool) (a:Act) (w:World),af P ops Q S k n l a w->wpAny P .any ops Q n l a w
 | 0,_,_,_,h=>h
 | n+1,_,_,_,h=>⟨h.1,fun j hj=>wpOp_mono (fun a' w' h'=>af.any n _ a' w' h'.2) (h.2 j hj)⟩
theorem af.start {id:Nat} {a:Act} {w:World} (hm:P.follows .mixedOrders=true) (h:af P ops Q S k ops.size (Array.replicate ops.size false) a w.drew):(Code.region id ops true).wp P Q a w:=
 wp_region_any hm (af.any _ _ _ _ h)
theorem lq {l:Array Bool} {i:Nat} (h0:l.getD i true=false) (h1:l.getD i false=true):False:=by
 by_cases hi:i<l.size
 . simp [hi] at h0 h1
   rw [h0] at h1;cases h1
 simp [Array.getElem?_eq_none (Nat.le_of_not_lt hi)] at h1
theorem af.first {i:Nat} {oi ok:Oper} {v:Value} (hi:ops[i]?=some oi) (hk:ops[k]?=some ok) (hki:∃e∈ok.after,Region.binds .any e=true/\e.on=i)
 (hsel:∀(j:Nat) (o:Oper) cs b,ops[j]?=some o->o.op≠.select cs b) (hQ:∀c a w,Q (.panic c) (a.put oi.dst v) w->Q (.panic c) a w) (n:Nat):
 ∀(l:Array Bool) (a:Act) (w:World),
  (∀j oj,ops[j]?=some oj->j≠i->l.getD j true=false->(∀e∈oj.after,Region.binds .any e=true->e.on≠i)->oi.apart ops oj=true) ->
  i∈Region.ready .any ops l->YieldsIf P ops S oi v a->S w->af P ops Q S k n (l.setIfInBounds i true) (a.put oi.dst v) w->af P ops Q S k (n+1) l a w:=by
 induction n with
 | zero=>
  intro l a w _ hr hy hS H;constructor
  . intro h
    rw [h] at hr;simp at hr
  intro j hj;by_cases hji:j=i
  . rw [hji]
    exact hy.wpOp hi hS ⟨fun _=>hS,H⟩
  have h2:=ready_mono (i:=i) hj hji;rw [H.1] at h2;simp at h2
 | succ n ih=>
  intro l a w hfree hr hy hS H;constructor
  . intro h
    rw [h] at hr;simp at hr
  intro j hj;by_cases hji:j=i
  . rw [hji]
    exact hy.wpOp hi hS ⟨fun _=>hS,H⟩
  obtain ⟨hju,oj,hoj,hall⟩:=mem_ready.1 hj;have hiu:=(mem_ready.1 hr).1;have hno:∀e∈oj.after,Region.binds .any e=true->e.on≠i:=fun e he hb hon=>lq hiu (hon▸hall e he hb);have hjk:j≠k:=by
   intro hjk;rw [hjk,hk] at hoj;obtain ⟨e,he,hb,hon⟩:=hki;cases hoj;exact hno e he hb hon
  have h1:=H.2 j (ready_mono hj hji);have h2:=wpOp_putIf hoj (hfree j oj hoj hji hju hno) (fun cs b=>hsel i oi cs b hi) (fun cs b=>hsel j oj cs b hoj) hQ hy h1;refine wpOp_mono ?_ h2
  intro a' w' h3;have hS':=h3.2.1 hjk;refine ⟨fun _=>hS',ih _ a' w' ?_ (ready_mono hr (Ne.symm hji)) h3.1 hS' ?_⟩
  . intro m om hm hmi hun hnm
    refine hfree m om hm hmi ?_ hnm
    by_cases hjm:j=m
    . rw [←hjm]
      exact hju
    rw [getD_set_ne true hjm] at hun;exact hun
  rw [Array.setIfInBounds_comm _ _ hji];exact h3.2.2
theorem gE {i:Nat} {o:Oper} {tl:List Oper} (h:ops.toList.drop i=o :: tl):ops[i]?=some o:=by
 have h1:(ops.toList.drop i)[0]?=some o:=by rw [h];rfl
 rw [List.getElem?_drop] at h1;simpa using h1
theorem af.take {i:Nat} {oi:Oper} {v:Value} {n:Nat} {l:Array Bool} {a:Act} {w:World} {tl:List Oper} (hi':ops.toList.drop i=oi :: tl)
 (hki:((ops[k]?).map fun o=>o.after.any fun e=>Region.binds .any e&&e.on==i)=some true) (hs:Region.noSelect ops=true) (hf:Region.free .any ops l i=true) (hr:(Region.ready .any ops l).contains i=true)
 (hQ:∀c a w,Q (.panic c) (a.put oi.dst v) w->Q (.panic c) a w) (hy:YieldsIf P ops S oi v a) (hS:S w) (h:af P ops Q S k n (l.setIfInBounds i true) (a.put oi.dst v) w):af P ops Q S k (n+1) l a w:=by
 have hi:=gE hi';cases hk:ops[k]? with
 | none=>rw [hk] at hki;cases hki
 | some ok=>
  rw [hk] at hki;simp only [Option.map_some,Option.some.injEq,Array.any_eq_true',Bool.and_eq_true,beq_iff_eq] at hki
  exact af.first hi hk hki (Region.noSelect_spec hs) hQ n l a w (Region.free_spec hi hf) (by simpa using hr) hy hS h
theorem af.one {i:Nat} {o:Oper} {n:Nat} {l:Array Bool} {a:Act} {w:World} {tl:List Oper} (hr:Region.ready .any ops l=[i]) (ho:ops.toList.drop i=o :: tl)
 (h:∀K':Act->World->Prop,Shut (∀a w,(i≠k->S w)->af P ops Q S k n (l.setIfInBounds i true) a w->K' a w)->if Region.wanted o (yielded ops a.tmps)=true then Oper.wp P o a w K' Q else K' (a.put o.dst undef) w):af P ops Q S k (n+1) l a w:=by
 constructor
 . intro h0
   rw [hr] at h0;simp at h0
 intro j hj;rw [hr] at hj;simp at hj
 rw [hj];exact wpOp_step (gE ho) (fun K' hK=>h K' (fun a w hS hW=>hK a w ⟨hS,hW⟩))
theorem af.done {l:Array Bool} {a:Act} {w:World} (hr:Region.ready .any ops l=[]) (h:Q .normal a w):∀n,af P ops Q S k n l a w
 | 0=>⟨hr,h⟩
 | _+1=>⟨fun _=>h,by rw [hr];simp⟩
end
variable {P:Program} {ops:Array Oper} {Q:Exit->Act->World->Prop} {S:World->Prop}
theorem cN {i:Nat} {oi:Oper} {v:Value} {fuel:Nat} {l:Array Bool} {a:Act} {w:World} {tl:List Oper} (hi:ops.toList.drop i=oi :: tl)
 (hs:Region.noSelect ops=true) (hf:Region.free .any ops l i=true) (hr:(Region.ready .any ops l).contains i=true)
 (hQ:∀c a w,Q (.panic c) (a.put oi.dst v) w->Q (.panic c) a w) (hw:Region.wanted oi (yielded ops a.tmps)=true) (hy:∀w,S w->(execOp a.eval oi).run P w=.ok (.value v) w) (hS:S w)
 (h:wpAnyH P .any ops Q S fuel (l.setIfInBounds i true) (a.put oi.dst v) w):wpAnyH P .any ops Q S (fuel+1) l a w:=
 wpAnyH_take (gE hi) hs hf hr hQ (Or.inl ⟨hw,hy⟩) hS h
theorem rO {i:Nat} {oi:Oper} {fuel:Nat} {l:Array Bool} {a:Act} {w:World} {tl:List Oper} (hi:ops.toList.drop i=oi :: tl)
 (hs:Region.noSelect ops=true) (hf:Region.free .any ops l i=true) (hr:(Region.ready .any ops l).contains i=true)
 (hQ:∀c a w,Q (.panic c) (a.put oi.dst undef) w->Q (.panic c) a w) (hw:Region.wanted oi (yielded ops a.tmps)=false) (hS:S w)
 (h:wpAnyH P .any ops Q S fuel (l.setIfInBounds i true) (a.put oi.dst undef) w):wpAnyH P .any ops Q S (fuel+1) l a w:=
 wpAnyH_take (gE hi) hs hf hr hQ (Or.inr ⟨hw,rfl⟩) hS h
theorem au {i:Nat} {o:Oper} {fuel:Nat} {l:Array Bool} {a:Act} {w:World} {tl:List Oper} (hr:Region.ready .any ops l=[i]) (ho:ops.toList.drop i=o :: tl) (hw:Region.wanted o (yielded ops a.tmps)=true)
 (h:∀K':Act->World->Prop,Shut (∀a w,S w->(S w->wpAnyH P .any ops Q S fuel (l.setIfInBounds i true) a w)->K' a w)->Oper.wp P o a w K' Q):wpAnyH P .any ops Q S (fuel+1) l a w:=
 wpAnyH_ready hr (by simp) (AllReadyH.cons (gE ho) (fun K' hK=>by rw [if_pos hw];exact h K' hK) AllReadyH.nil)
theorem ab (i:Nat) {oi:Oper} {v:Value} {fuel:Nat} {l:Array Bool} {a a':Act} {w:World} {tl:List Oper} (hS:S w) (h:wpAnyH P .any ops Q S fuel (l.setIfInBounds i true) a' w) (hi:ops.toList.drop i=oi :: tl:=by rfl)
 (hs:Region.noSelect ops=true:=by kernel_rfl) (hf:Region.free .any ops l i=true:=by kernel_rfl) (hr:(Region.ready .any ops l).contains i=true:=by kernel_rfl)
 (hQ:∀c a w,Q (.panic c) (a.put oi.dst v) w->Q (.panic c) a w:=by exact fun _ _ _ h=>h) (hw:Region.wanted oi (yielded ops a.tmps)=true:=by kernel_rfl)
 (hy:∀w,S w->(execOp a.eval oi).run P w=.ok (.value v) w:=by (intro w hSw;(try dsimp only at hSw);go_split_ands;go_simp;first|done|with_reducible rfl))
 (ha:a.put oi.dst v=a':=by (simp only [Act.put,List.setIfInBounds_toArray,List.set_cons_zero,List.set_cons_succ];first|done|rfl)):wpAnyH P .any ops Q S (fuel+1) l a w:=cN hi hs hf hr hQ hw hy hS (ha▸h)
theorem fA {i:Nat} {o:Oper} {fuel:Nat} {l:Array Bool} {a:Act} {w:World} {tl:List Oper} (hr:Region.ready .any ops l=[i]) (ho:ops.toList.drop i=o :: tl) (hw:Region.wanted o (yielded ops a.tmps)=false) (hS:S w)
 (h:wpAnyH P .any ops Q S fuel (l.setIfInBounds i true) (a.put o.dst undef) w):wpAnyH P .any ops Q S (fuel+1) l a w:=
 wpAnyH_ready hr (by simp) (AllReadyH.cons (gE ho) (fun K' hK=>by rw [if_neg (by rw [hw];simp)];exact hK _ _ hS (fun _=>h)) AllReadyH.nil)
theorem af.t {k:Nat} (i:Nat) {oi:Oper} {v:Value} {n:Nat} {l:Array Bool} {a a':Act} {w:World} {tl:List Oper} (hS:S w) (h:af P ops Q S k n (l.setIfInBounds i true) a' w) (hi:ops.toList.drop i=oi :: tl:=by rfl)
 (hki:((ops[k]?).map fun o=>o.after.any fun e=>Region.binds .any e&&e.on==i)=some true:=by kernel_rfl) (hs:Region.noSelect ops=true:=by kernel_rfl) (hf:Region.free .any ops l i=true:=by kernel_rfl) (hr:(Region.ready .any ops l).contains i=true:=by kernel_rfl)
 (hQ:∀c a w,Q (.panic c) (a.put oi.dst v) w->Q (.panic c) a w:=by exact fun _ _ _ h=>h) (hw:Region.wanted oi (yielded ops a.tmps)=true:=by rfl) (hy:∀w,S w->(execOp a.eval oi).run P w=.ok (.value v) w:=by (intro w hSw;(try dsimp only at hSw);go_split_ands;go_simp;first|done|with_reducible rfl)) (ha:a.put oi.dst v=a':=by (simp only [Act.put,List.setIfInBounds_toArray,List.set_cons_zero,List.set_cons_succ];first|done|rfl)):af P ops Q S k (n+1) l a w:=
 af.take hi hki hs hf hr hQ (Or.inl ⟨hw,hy⟩) hS (ha▸h)
theorem ao (i:Nat) {oi:Oper} {fuel:Nat} {l:Array Bool} {a a':Act} {w:World} {tl:List Oper} (hS:S w) (h:wpAnyH P .any ops Q S fuel (l.setIfInBounds i true) a' w) (hi:ops.toList.drop i=oi :: tl:=by rfl)
 (hs:Region.noSelect ops=true:=by kernel_rfl) (hf:Region.free .any ops l i=true:=by kernel_rfl) (hr:(Region.ready .any ops l).contains i=true:=by kernel_rfl)
 (hQ:∀c a w,Q (.panic c) (a.put oi.dst undef) w->Q (.panic c) a w:=by exact fun _ _ _ h=>h) (hw:Region.wanted oi (yielded ops a.tmps)=false:=by kernel_rfl)
 (ha:a.put oi.dst undef=a':=by (simp only [Act.put,List.setIfInBounds_toArray,List.set_cons_zero,List.set_cons_succ];first|done|rfl)):wpAnyH P .any ops Q S (fuel+1) l a w:=rO hi hs hf hr hQ hw hS (ha▸h)
def lN (l:List Int):Int:=l.foldl (fun n x=>bits BinOp.xor IntKind.i64 n x) 0
theorem rV {zs:List Int} {j:Nat} {x:Int} (h:j<zs.length) (hx:zs.getD j 0=x):bits BinOp.xor IntKind.i64 (lN (zs.take j)) x=lN (zs.take (j+1)):=by
 have e:zs[j]=x:=by rw [←hx];simp [List.getElem?_eq_getElem h]
 unfold lN;rw [List.take_succ_eq_append_getElem h,List.foldl_append,e];rfl
def bv (n:Int):BitVec 64:=BitVec.ofInt 64 n
def ofBv (v:BitVec 64):Int:=IntKind.i64.wrap (v.toNat:Int)
theorem xor_bv (a b:Int):bits BinOp.xor IntKind.i64 a b=ofBv (bv a ^^^ bv b):=rfl
def fL (zs:List Int) (k:Int) (j:Nat):Int:=(List.range j).foldl (fun (n:Int) (i:Nat)=>if (i:Int)=k then n else bits BinOp.xor IntKind.i64 n (zs.getD i 0)) 0
theorem lO (zs:List Int) (k:Int) (j:Nat):fL zs k (j+1)=if (j:Int)=k then fL zs k j else bits BinOp.xor IntKind.i64 (fL zs k j) (zs.getD j 0):=by
 unfold fL;rw [List.range_succ,List.foldl_append];rfl
theorem mQ (w:World) (a:Option Addr) (len cap:Nat) (zs:List Int) (hz:zs.length=len) (hr:aF .i64 w a zs) (hlen:len<=2097152):
 Calls Tryz.prog 246 #[.slice a len cap] w fun e w'=>e=.returned (.int .i64 (lN zs))/\aH w w':=by
 go_enter Tryz.func246,Tryz.ntmps246
 go_wp2
 go_loop [3,4] (fun n i=>∃j:Nat,j<=len/\i=.int .i64 j/\n=.int .i64 (lN (zs.take j))) (fun _ i=>len-(intOf i).toNat)
 case atStart=>exact ⟨0,Nat.zero_le _,rfl,rfl⟩
 obtain ⟨j,hj,rfl,rfl⟩:=hrel;by_cases hlt:j<len
 . rcases hr.cases with h0|⟨b,off,rfl,hbl,hc⟩
   . omega
   have hc1:=hc j (by omega);have HX:Hid (bits BinOp.xor IntKind.i64 (lN (zs.take j)) (zs.getD j 0)=lN (zs.take (j+1))):=rV (by omega) rfl;generalize zs.getD j 0=x at hc1 HX;clear hc;go_wp2
   go_round
   case rel=>exact ⟨j+1,by omega,by go_num,by rw [HX.out]⟩
   case measure=>simp [intOf];omega
 go_wp2
 go_ret
 have e:j=len:=by omega
 subst e;exact ⟨aP (by rw [List.take_of_length_le (by omega)]),aH.refl _⟩
theorem jb (w:World) (a:Option Addr) (len cap:Nat) (zs:List Int) (hz:zs.length=len) (hr:aF .i64 w a zs) (hlen:len<=2097152):
 Calls Tryz.prog 225 #[.slice a len cap] w fun e w'=>e=.returned (.int .i64 (lN zs))/\aH w w':=by
 go_enter Tryz.func225,Tryz.ntmps225
 go_wp2_with fail
 refine (mQ _ _ _ _ zs hz hr hlen).mono ?_
 rintro e w1 ⟨rfl,hs⟩;go_wp2
 go_ret
 exact ⟨rfl,hs⟩
theorem iT (w:World) (a:Option Addr) (len cap:Nat) (zs:List Int) (k:Int) (hz:zs.length=len) (hr:aF .i64 w a zs) (hlen:len<=2097152):
 Calls Tryz.prog 206 #[.slice a len cap,.int .i64 k] w fun e w'=>e=.returned (.int .i64 (fL zs k len))/\aH w w':=by
 go_enter Tryz.func206,Tryz.ntmps206
 go_wp2
 go_loop [5,6] (fun n i=>∃j:Nat,j<=len/\i=.int .i64 j/\n=.int .i64 (fL zs k j)) (fun _ i=>len-(intOf i).toNat)
 case atStart=>exact ⟨0,Nat.zero_le _,rfl,rfl⟩
 obtain ⟨j,hj,rfl,rfl⟩:=hrel;by_cases hlt:j<len
 . have hs:=lO zs k j
   by_cases hk:(j:Int)=k
   . have hkb:((j:Int)==k)=true:=by simpa using hk
     have HX:Hid (fL zs k (j+1)=fL zs k j):=by unfold Hid;rw [hs,if_pos hk]
     clear hs;go_wp2
     go_round
     case rel=>exact ⟨j+1,by omega,by go_num,by rw [HX.out]⟩
     case measure=>simp [intOf];omega
   have hkb:((j:Int)==k)=false:=by simpa using hk
   have HX:Hid (fL zs k (j+1)=bits BinOp.xor IntKind.i64 (fL zs k j) (zs.getD j 0)):=by unfold Hid;rw [hs,if_neg hk]
   clear hs;rcases hr.cases with h0|⟨b,off,rfl,hbl,hc⟩
   . omega
   have hc1:=hc j (by omega);generalize zs.getD j 0=x at hc1 HX;clear hc;go_wp2
   go_round
   case rel=>exact ⟨j+1,by omega,by go_num,by rw [HX.out]⟩
   case measure=>simp [intOf];omega
 go_wp2
 go_ret
 have e:j=len:=by omega
 subst e;exact ⟨rfl,aH.refl _⟩
section
variable {P:Program} {ops:Array Oper} {Q:Exit->Act->World->Prop} {S:World->Prop}
theorem tE {i i':Nat} {o o':Oper} {fuel:Nat} {l:Array Bool} {a:Act} {w:World} {tl tl':List Oper} (hr:Region.ready .any ops l=[i,i']) (ho:ops.toList.drop i=o :: tl) (ho':ops.toList.drop i'=o' :: tl') (hw:Region.wanted o (yielded ops a.tmps)=true) (hw':Region.wanted o' (yielded ops a.tmps)=true)
 (h:∀K':Act->World->Prop,Shut (∀a w,S w->(S w->wpAnyH P .any ops Q S fuel (l.setIfInBounds i true) a w)->K' a w)->Oper.wp P o a w K' Q)
 (h':∀K':Act->World->Prop,Shut (∀a w,S w->(S w->wpAnyH P .any ops Q S fuel (l.setIfInBounds i' true) a w)->K' a w)->Oper.wp P o' a w K' Q):wpAnyH P .any ops Q S (fuel+1) l a w:=
 wpAnyH_ready hr (by simp) (AllReadyH.cons (gE ho) (fun K' hK=>by rw [if_pos hw];exact h K' hK) (AllReadyH.cons (gE ho') (fun K' hK=>by rw [if_pos hw'];exact h' K' hK) AllReadyH.nil))
end
def Cur (w:World) (g:Nat) (a:Option Addr) (lb cb:Nat):Prop:=
 ∃(i:Nat) (h:Int),i<=lb/\w.heap[g]?=some (.cells #[.slice a lb cb,.int .i64 i,.int .i64 h] 95 (0,0))
theorem Cur.lt {w:World} {g lb cb:Nat} {a:Option Addr} (h:Cur w g a lb cb):g<w.heap.size:=by
 obtain ⟨_,_,_,hg⟩:=h;exact (Array.getElem?_eq_some_iff.1 hg).1
theorem Cur.but {w w':World} {g lb cb l h':Nat} {a:Option Addr} (h:Cur w g a lb cb) (hb:But l h' w w') (hd:g<l∨h'<=g):Cur w' g a lb cb:=by
 have hlt:=h.lt;obtain ⟨i,x,hi,hg⟩:=h;exact ⟨i,x,hi,by rw [hb.block g hlt hd];exact hg⟩
theorem Cur.below {w w':World} {g lb cb:Nat} {a:Option Addr} (h:Cur w g a lb cb) (hb:Below w.heap.size w w'):Cur w' g a lb cb:=by
 have hlt:=h.lt;obtain ⟨i,x,hi,hg⟩:=h;exact ⟨i,x,hi,by rw [hb.block g hlt];exact hg⟩
theorem ii (n:Int):bits .and .i64 n 255=n % 256:=by
 have h255:(BitVec.ofInt 64 255).toNat=2 ^ 8-1:=by decide
 have key:(BitVec.ofInt 64 n &&& BitVec.ofInt 64 255).toNat=(n % ((2 ^ 64:Nat):Int)).toNat % 2 ^ 8:=by
  rw [BitVec.toNat_and,BitVec.toNat_ofInt,h255,Nat.and_two_pow_sub_one_eq_mod]
 show IntKind.i64.wrap ((BitVec.ofInt 64 n &&& BitVec.ofInt 64 255).toNat:Nat)=n % 256
 rw [key,IntKind.wrap_i64];omega
theorem sn {w:World} {g lb cb i:Nat} {a:Option Addr} {h:Int} (hi:i<=lb) (hg:w.heap[g]?=some (.cells #[.slice a lb cb,.int .i64 i,.int .i64 h] 95 (0,0))) (h':Int) (n m:Nat):
 Cur (((w.setCell ⟨g,2,none⟩ (.int .i64 h')).drewN n).drewN m) g a lb cb:=⟨i,h',hi,heap_setCell_same w g 2 _ _ _ hg⟩
theorem tI {w:World} {g lb cb i:Nat} {a:Option Addr} {h:Int} (hi:i<lb) (hg:w.heap[g]?=some (.cells #[.slice a lb cb,.int .i64 i,.int .i64 h] 95 (0,0))) (h':Int) (n:Nat):
 Cur (((w.setCell ⟨g,2,none⟩ (.int .i64 h')).drewN n).setCell ⟨g,1,none⟩ (.int .i64 ((i:Int)+1))) g a lb cb:=by
 have h1:(((w.setCell ⟨g,2,none⟩ (.int .i64 h')).drewN n)).heap[g]?=some (.cells #[.slice a lb cb,.int .i64 i,.int .i64 h'] 95 (0,0)):=heap_setCell_same w g 2 _ _ _ hg;exact ⟨i+1,h',by omega,heap_setCell_same _ g 1 _ _ _ h1⟩
theorem qG (w:World) (g:Nat) (a:Option Addr) (lb cb:Nat) (zs:List Int) (hc:Cur w g a lb cb) (hz:zs.length=lb) (hr:aF .u8 w a zs) (hby:∀n∈zs,0<=n/\n<=255) (hlb:lb<=2097152) (ha:0<lb->∀x,a=some x->x.block<g):
 Calls Tryz.prog 164 #[.pointer (some ⟨g,0,none⟩)] w fun e w'=>∃x:Int,e=.returned (.int .i64 x)/\0<=x/\x<=255/\Cur w' g a lb cb/\But g (g+1) w w':=by
 obtain ⟨i,h,hi,hg⟩:=hc;have hc0:w.cell? ⟨g,0,none⟩=some (.slice a lb cb):=by rw [cell_of_row w g 0 _ _ _ hg];rfl
 have hc1:w.cell? ⟨g,1,none⟩=some (.int .i64 i):=by rw [cell_of_row w g 1 _ _ _ hg];rfl
 have hc2:w.cell? ⟨g,2,none⟩=some (.int .i64 h):=by rw [cell_of_row w g 2 _ _ _ hg];rfl
 have hf1:w.frozen? ⟨g,1,none⟩=false:=frozen_of_row w g 1 _ _ hg;have hf2:w.frozen? ⟨g,2,none⟩=false:=frozen_of_row w g 2 _ _ hg;have HG:Hid (w.heap[g]?=some (.cells #[.slice a lb cb,.int .i64 i,.int .i64 h] 95 (0,0))):=hg;clear hg;by_cases hlt:i<lb
 . rcases hr.cases with h0|⟨b,off,rfl,hbl,hcz⟩
   . omega
   have hbg:b<g:=ha (by omega) _ rfl;have hcx:=hcz i (by omega);have hbx:=ua hby i;generalize zs.getD i 0=y at hcx hbx;clear hcz;go_enter Tryz.func164,Tryz.ntmps164
   go_wp2
   go_quiet (fail)
   go_wp2
   go_quiet (fail)
   go_wp2
   go_quiet (fail)
   go_wp2
   go_ret
   exact ⟨_,rfl,by rw [ii];omega,by rw [ii];omega,tI hlt HG.out _ _,((But.setCell (Nat.le_refl _) (by omega) _).drewN _).trans (But.setCell (Nat.le_refl _) (by omega) _)⟩
 go_enter Tryz.func164,Tryz.ntmps164
 go_wp2
 go_quiet (fail)
 go_wp2
 go_quiet (fail)
 go_wp2
 go_ret
 exact ⟨_,rfl,by rw [ii];omega,by rw [ii];omega,sn hi HG.out _ _ _,((But.setCell (Nat.le_refl _) (by omega) _).drewN _).drewN _⟩
theorem jV (w:World) (a:Option Addr) (lb cb:Nat) (zs:List Int) (hz:zs.length=lb) (hr:aF .u8 w a zs) (hlb:lb<=2097152):
 Calls Tryz.prog 42 #[.slice a lb cb] w fun e w'=>e=.returned (.pointer (some ⟨w.heap.size,0,none⟩))/\Cur w' w.heap.size a lb cb/\Below w.heap.size w w':=by
 go_enter Tryz.func42,Tryz.ntmps42
 go_wp2
 go_loop [3,4] (fun h i=>∃(j:Nat) (x:Int),j<=lb/\i=.int .i64 j/\h=.int .i64 x) (fun _ i=>lb-(intOf i).toNat)
 case atStart=>exact ⟨0,_,Nat.zero_le _,rfl,rfl⟩
 obtain ⟨j,x,hj,rfl,rfl⟩:=hrel;by_cases hlt:j<lb
 . by_cases h4:(j:Int)<4000
   . rcases hr.cases with h0|⟨b,off,rfl,hbl,hc⟩
     . omega
     have hc1:=hc j (by omega);generalize zs.getD j 0=y at hc1;clear hc;go_wp2
     go_round
     case rel=>exact ⟨j+1,_,by omega,by go_num,rfl⟩
     case measure=>simp [intOf];omega
   go_wp2
   go_ret
   exact ⟨rfl,⟨0,_,Nat.zero_le _,heap_alloc_new w _⟩,(Below.refl _ _).alloc (Nat.le_refl _) _⟩
 go_wp2
 go_ret
 exact ⟨rfl,⟨0,_,Nat.zero_le _,heap_alloc_new w _⟩,(Below.refl _ _).alloc (Nat.le_refl _) _⟩
theorem kK (w:World) (g:Nat) (a:Option Addr) (lb cb:Nat) (zs:List Int) (n:Int) (hc:Cur w g a lb cb) (hz:zs.length=lb) (hr:aF .u8 w a zs) (hby:∀n∈zs,0<=n/\n<=255) (hlb:lb<=2097152) (ha:0<lb->∀x,a=some x->x.block<g) (hn:0<=n) (hn':n<=256):
 Calls Tryz.prog 101 #[.pointer (some ⟨g,0,none⟩),.int .i64 n] w fun e w'=>∃x:Int,e=.returned (.int .i64 x)/\0<=x/\(x<n∨x=0)/\Cur w' g a lb cb/\But g (g+1) w w':=by
 by_cases h0:n=0
 . subst h0
   go_enter Tryz.func101,Tryz.ntmps101
   go_wp2
   go_ret
   exact ⟨_,rfl,by omega,by omega,hc,But.refl _ _ _⟩
 have h1:1<=n:=by omega
 go_enter Tryz.func101,Tryz.ntmps101
 go_wp2_with fail
 refine (qG _ g a lb cb zs hc hz hr hby hlb ha).mono ?_
 rintro e w1 ⟨x,rfl,hx0,hx1,hc1,hb1⟩;go_wp2
 go_ret
 exact ⟨_,rfl,Int.emod_nonneg _ (by omega),.inl (Int.emod_lt_of_pos _ (by omega)),hc1,hb1⟩
theorem sp (w:World) (g:Nat) (a:Option Addr) (lb cb:Nat) (zs:List Int) (la:Option Addr) (ll lc:Nat) (ls:List Int) (hc:Cur w g a lb cb) (hz:zs.length=lb) (hr:aF .u8 w a zs) (hby:∀n∈zs,0<=n/\n<=255) (hlb:lb<=2097152) (ha:0<lb->∀x,a=some x->x.block<g)
 (hl:ls.length=ll) (hlr:aF .i64 w la ls) (hla:∀x,la=some x->g+1<=x.block) (h1:1<=ll) (h2:ll<=256):
 Calls Tryz.prog 54 #[.pointer (some ⟨g,0,none⟩),.slice la ll lc] w fun e w'=>∃x:Int,e=.returned (.int .i64 x)/\x∈ls/\Cur w' g a lb cb/\But g (g+1) w w':=by
 rcases hlr.cases with h0|⟨b,off,rfl,hbl,hcs⟩
 . omega
 have hbg:g+1<=b:=hla _ rfl;go_enter Tryz.func54,Tryz.ntmps54
 go_wp2_with fail
 refine (kK _ g a lb cb zs _ hc hz hr hby hlb ha (by omega) (by omega)).mono ?_
 rintro e w1 ⟨x,rfl,hx0,hx1,hc1,hb1⟩;obtain ⟨x,rfl⟩:=Int.eq_ofNat_of_zero_le hx0;have hxl:x<ll:=by omega
 have hcx:w1.cell? ⟨b,off+x,none⟩=some (.int .i64 (ls.getD x 0)):=by
  rw [World.cell?_of_block (w:=w) (hb1.block b hbl (.inr hbg))];exact hcs x (by omega)
 have HM:Hid (ls.getD x 0∈ls):=by
  unfold Hid;rw [List.getD_eq_getElem?_getD,List.getElem?_eq_getElem (by omega)];exact List.getElem_mem _
 generalize ls.getD x 0=y at hcx HM;clear hcs;go_wp2
 go_ret
 exact ⟨_,rfl,HM.out,hc1,hb1⟩
def bU (P:Program) (ops:Array Oper) (Q:Exit->Act->World->Prop) (S:World->Prop) (k:Nat):Nat->Array Bool->Act->World->Prop
 | 0,l,a,w=>Region.ready .any ops l=[]/\Q .normal a w
 | n+1,l,a,w=>(Region.ready .any ops l=[]->Q .normal a w)/\∀j∈Region.ready .any ops l,wpOp P ops Q j (fun a' w'=>(j≠k->l.getD k true=false->S w')/\bU P ops Q S k n (l.setIfInBounds j true) a' w') a w
section
variable {P:Program} {ops:Array Oper} {Q:Exit->Act->World->Prop} {S:World->Prop} {k:Nat}
theorem bU.any:∀(n:Nat) (l:Array Bool) (a:Act) (w:World),bU P ops Q S k n l a w->wpAny P .any ops Q n l a w
 | 0,_,_,_,h=>h
 | n+1,_,_,_,h=>⟨h.1,fun j hj=>wpOp_mono (fun a' w' h'=>bU.any n _ a' w' h'.2) (h.2 j hj)⟩
theorem bU.start {id:Nat} {a:Act} {w:World} (hm:P.follows .mixedOrders=true) (h:bU P ops Q S k ops.size (Array.replicate ops.size false) a w.drew):(Code.region id ops true).wp P Q a w:=
 wp_region_any hm (bU.any _ _ _ _ h)
theorem bU.first {i:Nat} {oi ok:Oper} {v:Value} (hi:ops[i]?=some oi) (hk:ops[k]?=some ok) (hki:∃e∈ok.after,Region.binds .any e=true/\e.on=i)
 (hsel:∀(j:Nat) (o:Oper) cs b,ops[j]?=some o->o.op≠.select cs b) (hQ:∀c a w,Q (.panic c) (a.put oi.dst v) w->Q (.panic c) a w) (n:Nat):
 ∀(l:Array Bool) (a:Act) (w:World),
  (∀j oj,ops[j]?=some oj->j≠i->l.getD j true=false->(∀e∈oj.after,Region.binds .any e=true->e.on≠i)->oi.apart ops oj=true) ->
  l.getD k true=false->i∈Region.ready .any ops l->YieldsIf P ops S oi v a->S w->bU P ops Q S k n (l.setIfInBounds i true) (a.put oi.dst v) w->bU P ops Q S k (n+1) l a w:=by
 induction n with
 | zero=>
  intro l a w _ hkl hr hy hS H;constructor
  . intro h
    rw [h] at hr;simp at hr
  intro j hj;by_cases hji:j=i
  . rw [hji]
    exact hy.wpOp hi hS ⟨fun _ _=>hS,H⟩
  have h2:=ready_mono (i:=i) hj hji;rw [H.1] at h2;simp at h2
 | succ n ih=>
  intro l a w hfree hkl hr hy hS H;constructor
  . intro h
    rw [h] at hr;simp at hr
  intro j hj;by_cases hji:j=i
  . rw [hji]
    exact hy.wpOp hi hS ⟨fun _ _=>hS,H⟩
  obtain ⟨hju,oj,hoj,hall⟩:=mem_ready.1 hj;have hiu:=(mem_ready.1 hr).1;have hno:∀e∈oj.after,Region.binds .any e=true->e.on≠i:=fun e he hb hon=>lq hiu (hon▸hall e he hb);have hjk:j≠k:=by
   intro hjk;rw [hjk,hk] at hoj;obtain ⟨e,he,hb,hon⟩:=hki;cases hoj;exact hno e he hb hon
  have h1:=H.2 j (ready_mono hj hji);have h2:=wpOp_putIf hoj (hfree j oj hoj hji hju hno) (fun cs b=>hsel i oi cs b hi) (fun cs b=>hsel j oj cs b hoj) hQ hy h1;refine wpOp_mono ?_ h2
  intro a' w' h3;have hik:i≠k:=by
   intro hik;obtain ⟨_,ok',hok',hall'⟩:=mem_ready.1 hr;rw [hik,hk] at hok';obtain ⟨e,he,hb,hon⟩:=hki;cases hok';exact lq hiu (hon▸hall' e he hb)
  have hS':=h3.2.1 hjk (by rw [getD_set_ne true hik];exact hkl);refine ⟨fun _ _=>hS',ih _ a' w' ?_ (by rw [getD_set_ne true hjk];exact hkl) (ready_mono hr (Ne.symm hji)) h3.1 hS' ?_⟩
  . intro m om hm hmi hun hnm
    refine hfree m om hm hmi ?_ hnm
    by_cases hjm:j=m
    . rw [←hjm]
      exact hju
    rw [getD_set_ne true hjm] at hun;exact hun
  rw [Array.setIfInBounds_comm _ _ hji];exact h3.2.2
theorem bU.take {i:Nat} {oi:Oper} {v:Value} {n:Nat} {l:Array Bool} {a:Act} {w:World} {tl:List Oper} (hi':ops.toList.drop i=oi :: tl)
 (hki:((ops[k]?).map fun o=>o.after.any fun e=>Region.binds .any e&&e.on==i)=some true) (hs:Region.noSelect ops=true) (hf:Region.free .any ops l i=true) (hr:(Region.ready .any ops l).contains i=true)
 (hQ:∀c a w,Q (.panic c) (a.put oi.dst v) w->Q (.panic c) a w) (hy:YieldsIf P ops S oi v a) (hS:S w) (h:bU P ops Q S k n (l.setIfInBounds i true) (a.put oi.dst v) w) (hkl:l.getD k true=false:=by kernel_rfl):bU P ops Q S k (n+1) l a w:=by
 have hi:=gE hi';cases hk:ops[k]? with
 | none=>rw [hk] at hki;cases hki
 | some ok=>
  rw [hk] at hki;simp only [Option.map_some,Option.some.injEq,Array.any_eq_true',Bool.and_eq_true,beq_iff_eq] at hki
  exact bU.first hi hk hki (Region.noSelect_spec hs) hQ n l a w (Region.free_spec hi hf) hkl (by simpa using hr) hy hS h
theorem bU.one {i:Nat} {o:Oper} {n:Nat} {l:Array Bool} {a:Act} {w:World} {tl:List Oper} (hr:Region.ready .any ops l=[i]) (ho:ops.toList.drop i=o :: tl)
 (h:∀K':Act->World->Prop,Shut (∀a w,(i≠k->S w)->bU P ops Q S k n (l.setIfInBounds i true) a w->K' a w)->if Region.wanted o (yielded ops a.tmps)=true then Oper.wp P o a w K' Q else K' (a.put o.dst undef) w):bU P ops Q S k (n+1) l a w:=by
 constructor
 . intro h0
   rw [hr] at h0;simp at h0
 intro j hj;rw [hr] at hj;simp at hj
 rw [hj];exact wpOp_step (gE ho) (fun K' hK=>h K' (fun a w hS hW=>hK a w ⟨fun h _=>hS h,hW⟩))
theorem bU.late {i:Nat} {o:Oper} {n:Nat} {l:Array Bool} {a:Act} {w:World} {tl:List Oper} (hr:Region.ready .any ops l=[i]) (ho:ops.toList.drop i=o :: tl) (hl:l.getD k true=true)
 (h:∀K':Act->World->Prop,Shut (∀a w,bU P ops Q S k n (l.setIfInBounds i true) a w->K' a w)->if Region.wanted o (yielded ops a.tmps)=true then Oper.wp P o a w K' Q else K' (a.put o.dst undef) w):bU P ops Q S k (n+1) l a w:=by
 constructor
 . intro h0
   rw [hr] at h0;simp at h0
 intro j hj;rw [hr] at hj;simp at hj
 rw [hj];exact wpOp_step (gE ho) (fun K' hK=>h K' (fun a w hW=>hK a w ⟨fun _ h0=>(by rw [hl] at h0;cases h0),hW⟩))
theorem bU.two {i i':Nat} {o o':Oper} {n:Nat} {l:Array Bool} {a:Act} {w:World} {tl tl':List Oper} (hr:Region.ready .any ops l=[i,i']) (ho:ops.toList.drop i=o :: tl) (ho':ops.toList.drop i'=o' :: tl')
 (h:∀K':Act->World->Prop,Shut (∀a w,(i≠k->S w)->bU P ops Q S k n (l.setIfInBounds i true) a w->K' a w)->if Region.wanted o (yielded ops a.tmps)=true then Oper.wp P o a w K' Q else K' (a.put o.dst undef) w)
 (h':∀K':Act->World->Prop,Shut (∀a w,(i'≠k->S w)->bU P ops Q S k n (l.setIfInBounds i' true) a w->K' a w)->if Region.wanted o' (yielded ops a.tmps)=true then Oper.wp P o' a w K' Q else K' (a.put o'.dst undef) w):bU P ops Q S k (n+1) l a w:=by
 constructor
 . intro h0
   rw [hr] at h0;simp at h0
 intro j hj;rw [hr] at hj;simp only [List.mem_cons,List.not_mem_nil,or_false] at hj
 rcases hj with hj|hj
 . rw [hj]
   exact wpOp_step (gE ho) (fun K' hK=>h K' (fun a w hS hW=>hK a w ⟨fun h _=>hS h,hW⟩))
 rw [hj];exact wpOp_step (gE ho') (fun K' hK=>h' K' (fun a w hS hW=>hK a w ⟨fun h _=>hS h,hW⟩))
theorem bU.done {l:Array Bool} {a:Act} {w:World} (hr:Region.ready .any ops l=[]) (h:Q .normal a w):∀n,bU P ops Q S k n l a w
 | 0=>⟨hr,h⟩
 | _+1=>⟨fun _=>h,by rw [hr];simp⟩
end
section
variable {P:Program} {ops:Array Oper} {Q:Exit->Act->World->Prop} {I:Array Bool->Act->World->Prop}
end
end Go.Proofs.YtejokiafgbjdaaaGreat
