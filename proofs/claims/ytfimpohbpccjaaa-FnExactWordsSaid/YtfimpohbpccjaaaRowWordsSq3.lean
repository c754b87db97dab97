/-
 The walks of both Blocks and of what tells a stripe (the program's and the specification's). No condition.
-/
import Derived.Test.YtfimpohbpccjaaaRowWordsSq1
import Derived.OrdersHeld
import Derived.RegionTactic
import Derived.Test.YtfimpohbpccjaaaRows

set_option maxRecDepth 100000
set_option maxHeartbeats 8000000
set_option linter.unusedSimpArgs false

namespace Go.Proofs.Ytfimpohbpccjaaa
open Go.RowKit

def cM (P:Program) (ops:Array Oper) (Q:Exit->Act->World->Prop) (S:World->Prop) (k:Nat):Nat->Array Bool->Act->World->Prop
 | 0,l,a,w=>Region.ready .any ops l=[]/\Q .normal a w
 | n+1,l,a,w=>(Region.ready .any ops l=[]->Q .normal a w)/\∀j∈Region.ready .any ops l,wpOp P ops Q j (fun a' w'=>(j≠k->S w')/\cM P ops Q S k n (l.setIfInBounds j true) a' w') a w
section
variable {P:Program} {ops:Array Oper} {Q:Exit->Act->World->Prop} {S:World->Prop} {k:Nat}
theorem cM.any:∀(n:Nat) (l:Array Bool) (a:Act) (w:World),cM P ops Q S k n l a w->wpAny P .any ops Q n l a w
 | 0,_,_,_,h=>h
 | n+1,_,_,_,h=>⟨h.1,fun j hj=>wpOp_mono (fun a' w' h'=>cM.any n _ a' w' h'.2) (h.2 j hj)⟩
theorem gN {l:Array Bool} {i:Nat} (h0:l.getD i true=false) (h1:l.getD i false=true):False:=by
 by_cases hi:i<l.size
 . simp [hi] at h0 h1
   rw [h0] at h1;cases h1
 simp [Array.getElem?_eq_none (Nat.le_of_not_lt hi)] at h1
theorem cM.first {i:Nat} {oi ok:Oper} {v:Value} (hi:ops[i]?=some oi) (hk:ops[k]?=some ok) (hki:∃e∈ok.after,Region.binds .any e=true/\e.on=i)
 (hsel:∀(j:Nat) (o:Oper) cs b,ops[j]?=some o->o.op≠.select cs b) (hQ:∀c a w,Q (.panic c) (a.put oi.dst v) w->Q (.panic c) a w) (n:Nat):
 ∀(l:Array Bool) (a:Act) (w:World),
  (∀j oj,ops[j]?=some oj->j≠i->l.getD j true=false->(∀e∈oj.after,Region.binds .any e=true->e.on≠i)->oi.apart ops oj=true) ->
  i∈Region.ready .any ops l->YieldsIf P ops S oi v a->S w->cM P ops Q S k n (l.setIfInBounds i true) (a.put oi.dst v) w->cM P ops Q S k (n+1) l a w:=by
 induction n with
 | zero=>
  intro l a w _ hr hy hS H;constructor
  . intro h
    rw [h] at hr;simp at hr
  intro j hj;by_cases hji:j=i
  . rw [hji]
    exact hy.wpOp hi hS ⟨fun _=>hS,H⟩
  have h2:=ready_mono (i:=i) hj hji;rw [H.1] at h2;simp at h2
 | succ n ih=>
  intro l a w hfree hr hy hS H;constructor
  . intro h
    rw [h] at hr;simp at hr
  intro j hj;by_cases hji:j=i
  . rw [hji]
    exact hy.wpOp hi hS ⟨fun _=>hS,H⟩
  obtain ⟨hju,oj,hoj,hall⟩:=mem_ready.1 hj;have hiu:=(mem_ready.1 hr).1;have hno:∀e∈oj.after,Region.binds .any e=true->e.on≠i:=fun e he hb hon=>gN hiu (hon▸hall e he hb);have hjk:j≠k:=by
   intro hjk;rw [hjk,hk] at hoj;obtain ⟨e,he,hb,hon⟩:=hki;cases hoj;exact hno e he hb hon
  have h1:=H.2 j (ready_mono hj hji);have h2:=wpOp_putIf hoj (hfree j oj hoj hji hju hno) (fun cs b=>hsel i oi cs b hi) (fun cs b=>hsel j oj cs b hoj) hQ hy h1;refine wpOp_mono ?_ h2
  intro a' w' h3;have hS':=h3.2.1 hjk;refine ⟨fun _=>hS',ih _ a' w' ?_ (ready_mono hr (Ne.symm hji)) h3.1 hS' ?_⟩
  . intro m om hm hmi hun hnm
    refine hfree m om hm hmi ?_ hnm
    by_cases hjm:j=m
    . rw [←hjm]
      exact hju
    rw [getD_set_ne true hjm] at hun;exact hun
  rw [Array.setIfInBounds_comm _ _ hji];exact h3.2.2
theorem ev {i:Nat} {o:Oper} {tl:List Oper} (h:ops.toList.drop i=o :: tl):ops[i]?=some o:=by
 have h1:(ops.toList.drop i)[0]?=some o:=by rw [h];rfl
 rw [List.getElem?_drop] at h1;simpa using h1
theorem cM.take {i:Nat} {oi:Oper} {v:Value} {n:Nat} {l:Array Bool} {a:Act} {w:World} {tl:List Oper} (hi':ops.toList.drop i=oi :: tl)
 (hki:((ops[k]?).map fun o=>o.after.any fun e=>Region.binds .any e&&e.on==i)=some true) (hs:Region.noSelect ops=true) (hf:Region.free .any ops l i=true) (hr:(Region.ready .any ops l).contains i=true)
 (hQ:∀c a w,Q (.panic c) (a.put oi.dst v) w->Q (.panic c) a w) (hy:YieldsIf P ops S oi v a) (hS:S w) (h:cM P ops Q S k n (l.setIfInBounds i true) (a.put oi.dst v) w):cM P ops Q S k (n+1) l a w:=by
 have hi:=ev hi';cases hk:ops[k]? with
 | none=>rw [hk] at hki;cases hki
 | some ok=>
  rw [hk] at hki;simp only [Option.map_some,Option.some.injEq,Array.any_eq_true',Bool.and_eq_true,beq_iff_eq] at hki
  exact cM.first hi hk hki (Region.noSelect_spec hs) hQ n l a w (Region.free_spec hi hf) (by simpa using hr) hy hS h
theorem cM.one {i:Nat} {o:Oper} {n:Nat} {l:Array Bool} {a:Act} {w:World} {tl:List Oper} (hr:Region.ready .any ops l=[i]) (ho:ops.toList.drop i=o :: tl)
 (h:∀K':Act->World->Prop,Shut (∀a w,(i≠k->S w)->cM P ops Q S k n (l.setIfInBounds i true) a w->K' a w)->if Region.wanted o (yielded ops a.tmps)=true then Oper.wp P o a w K' Q else K' (a.put o.dst undef) w):cM P ops Q S k (n+1) l a w:=by
 constructor
 . intro h0
   rw [hr] at h0;simp at h0
 intro j hj;rw [hr] at hj;simp at hj
 rw [hj];exact wpOp_step (ev ho) (fun K' hK=>h K' (fun a w hS hW=>hK a w ⟨hS,hW⟩))
theorem cM.done {l:Array Bool} {a:Act} {w:World} (hr:Region.ready .any ops l=[]) (h:Q .normal a w):∀n,cM P ops Q S k n l a w
 | 0=>⟨hr,h⟩
 | _+1=>⟨fun _=>h,by rw [hr];simp⟩
end
variable {P:Program} {ops:Array Oper} {Q:Exit->Act->World->Prop} {S:World->Prop}
theorem ah {i:Nat} {oi:Oper} {v:Value} {fuel:Nat} {l:Array Bool} {a:Act} {w:World} {tl:List Oper} (hi:ops.toList.drop i=oi :: tl)
 (hs:Region.noSelect ops=true) (hf:Region.free .any ops l i=true) (hr:(Region.ready .any ops l).contains i=true)
 (hQ:∀c a w,Q (.panic c) (a.put oi.dst v) w->Q (.panic c) a w) (hw:Region.wanted oi (yielded ops a.tmps)=true) (hy:∀w,S w->(execOp a.eval oi).run P w=.ok (.value v) w) (hS:S w)
 (h:wpAnyH P .any ops Q S fuel (l.setIfInBounds i true) (a.put oi.dst v) w):wpAnyH P .any ops Q S (fuel+1) l a w:=
 wpAnyH_take (ev hi) hs hf hr hQ (Or.inl ⟨hw,hy⟩) hS h
theorem gk {i:Nat} {oi:Oper} {fuel:Nat} {l:Array Bool} {a:Act} {w:World} {tl:List Oper} (hi:ops.toList.drop i=oi :: tl)
 (hs:Region.noSelect ops=true) (hf:Region.free .any ops l i=true) (hr:(Region.ready .any ops l).contains i=true)
 (hQ:∀c a w,Q (.panic c) (a.put oi.dst undef) w->Q (.panic c) a w) (hw:Region.wanted oi (yielded ops a.tmps)=false) (hS:S w)
 (h:wpAnyH P .any ops Q S fuel (l.setIfInBounds i true) (a.put oi.dst undef) w):wpAnyH P .any ops Q S (fuel+1) l a w:=
 wpAnyH_take (ev hi) hs hf hr hQ (Or.inr ⟨hw,rfl⟩) hS h
theorem ag {i:Nat} {o:Oper} {fuel:Nat} {l:Array Bool} {a:Act} {w:World} {tl:List Oper} (hr:Region.ready .any ops l=[i]) (ho:ops.toList.drop i=o :: tl) (hw:Region.wanted o (yielded ops a.tmps)=true)
 (h:∀K':Act->World->Prop,Shut (∀a w,S w->(S w->wpAnyH P .any ops Q S fuel (l.setIfInBounds i true) a w)->K' a w)->Oper.wp P o a w K' Q):wpAnyH P .any ops Q S (fuel+1) l a w:=
 wpAnyH_ready hr (by simp) (AllReadyH.cons (ev ho) (fun K' hK=>by rw [if_pos hw];exact h K' hK) AllReadyH.nil)
theorem aa (i:Nat) {oi:Oper} {v:Value} {fuel:Nat} {l:Array Bool} {a a':Act} {w:World} {tl:List Oper} (hS:S w) (h:wpAnyH P .any ops Q S fuel (l.setIfInBounds i true) a' w) (hi:ops.toList.drop i=oi :: tl:=by rfl)
 (hs:Region.noSelect ops=true:=by kernel_rfl) (hf:Region.free .any ops l i=true:=by kernel_rfl) (hr:(Region.ready .any ops l).contains i=true:=by kernel_rfl)
 (hQ:∀c a w,Q (.panic c) (a.put oi.dst v) w->Q (.panic c) a w:=by exact fun _ _ _ h=>h) (hw:Region.wanted oi (yielded ops a.tmps)=true:=by kernel_rfl)
 (hy:∀w,S w->(execOp a.eval oi).run P w=.ok (.value v) w:=by (intro w hSw;(try dsimp only at hSw);go_split_ands;go_simp;first|done|with_reducible rfl))
 (ha:a.put oi.dst v=a':=by (simp only [Act.put,List.setIfInBounds_toArray,List.set_cons_zero,List.set_cons_succ];first|done|rfl)):wpAnyH P .any ops Q S (fuel+1) l a w:=ah hi hs hf hr hQ hw hy hS (ha▸h)
theorem cr {i:Nat} {o:Oper} {fuel:Nat} {l:Array Bool} {a:Act} {w:World} {tl:List Oper} (hr:Region.ready .any ops l=[i]) (ho:ops.toList.drop i=o :: tl) (hw:Region.wanted o (yielded ops a.tmps)=false) (hS:S w)
 (h:wpAnyH P .any ops Q S fuel (l.setIfInBounds i true) (a.put o.dst undef) w):wpAnyH P .any ops Q S (fuel+1) l a w:=
 wpAnyH_ready hr (by simp) (AllReadyH.cons (ev ho) (fun K' hK=>by rw [if_neg (by rw [hw];simp)];exact hK _ _ hS (fun _=>h)) AllReadyH.nil)
theorem cM.t {k:Nat} (i:Nat) {oi:Oper} {v:Value} {n:Nat} {l:Array Bool} {a a':Act} {w:World} {tl:List Oper} (hS:S w) (h:cM P ops Q S k n (l.setIfInBounds i true) a' w) (hi:ops.toList.drop i=oi :: tl:=by rfl)
 (hki:((ops[k]?).map fun o=>o.after.any fun e=>Region.binds .any e&&e.on==i)=some true:=by kernel_rfl) (hs:Region.noSelect ops=true:=by kernel_rfl) (hf:Region.free .any ops l i=true:=by kernel_rfl) (hr:(Region.ready .any ops l).contains i=true:=by kernel_rfl)
 (hQ:∀c a w,Q (.panic c) (a.put oi.dst v) w->Q (.panic c) a w:=by exact fun _ _ _ h=>h) (hw:Region.wanted oi (yielded ops a.tmps)=true:=by rfl) (hy:∀w,S w->(execOp a.eval oi).run P w=.ok (.value v) w:=by (intro w hSw;(try dsimp only at hSw);go_split_ands;go_simp;first|done|with_reducible rfl)) (ha:a.put oi.dst v=a':=by (simp only [Act.put,List.setIfInBounds_toArray,List.set_cons_zero,List.set_cons_succ];first|done|rfl)):cM P ops Q S k (n+1) l a w:=
 cM.take hi hki hs hf hr hQ (Or.inl ⟨hw,hy⟩) hS (ha▸h)
theorem ae (i:Nat) {oi:Oper} {fuel:Nat} {l:Array Bool} {a a':Act} {w:World} {tl:List Oper} (hS:S w) (h:wpAnyH P .any ops Q S fuel (l.setIfInBounds i true) a' w) (hi:ops.toList.drop i=oi :: tl:=by rfl)
 (hs:Region.noSelect ops=true:=by kernel_rfl) (hf:Region.free .any ops l i=true:=by kernel_rfl) (hr:(Region.ready .any ops l).contains i=true:=by kernel_rfl)
 (hQ:∀c a w,Q (.panic c) (a.put oi.dst undef) w->Q (.panic c) a w:=by exact fun _ _ _ h=>h) (hw:Region.wanted oi (yielded ops a.tmps)=false:=by kernel_rfl)
 (ha:a.put oi.dst undef=a':=by (simp only [Act.put,List.setIfInBounds_toArray,List.set_cons_zero,List.set_cons_succ];first|done|rfl)):wpAnyH P .any ops Q S (fuel+1) l a w:=gk hi hs hf hr hQ hw hS (ha▸h)
theorem dS (n:Int) (w:World):Calls Try.prog 103 #[.int .i64 n] w fun e w'=>e=.returned (.bool (isW n))/\w'=w:=by
 unfold isW;by_cases h0:0<=n
 . by_cases h1:n<=65535
   . go_enter Try.func103,Try.ntmps103
     go_wp2
     go_ret
     exact ⟨ac (by simp [h0,h1]),rfl⟩
   go_enter Try.func103,Try.ntmps103
   go_wp2
   go_ret
   exact ⟨ac (by symm;simp;omega),rfl⟩
 go_enter Try.func103,Try.ntmps103
 go_wp2
 go_ret
 exact ⟨ac (by symm;simp;omega),rfl⟩
theorem dT (n:Int) (w:World):Calls Try.prog 99 #[.int .i64 n] w fun e w'=>e=.returned (.bool (isW n))/\w'=w:=by
 go_enter Try.func99,Try.ntmps99
 go_wp2_with (go_at_call 27;refine (al _ _ _ _).mono ?_;rintro e w' ⟨rfl,rfl⟩)
 go_ret
 exact ⟨rfl,rfl⟩
theorem bU (w:World) (a:Option Addr) (len cap:Nat) (zs:List Int) (hz:zs.length=len) (hr:aL .i64 w a zs) (hlen:len<=2097152):
 Calls Try.prog 85 #[.slice a len cap] w fun e w'=>e=.returned (.bool (cW zs))/\w'=w:=by
 go_enter Try.func85,Try.ntmps85
 go_wp2
 go_loop [3] (fun i=>∃j:Nat,j<=len/\i=.int .i64 j/\cW (zs.take j)=true) (fun i=>len-(intOf i).toNat)
 case atStart=>exact ⟨0,Nat.zero_le _,rfl,rfl⟩
 obtain ⟨j,hj,rfl,ht⟩:=hrel;by_cases hlt:j<len
 . rcases hr.cases with h0|⟨b,off,rfl,hbl,hc⟩
   . omega
   have hc1:=hc j (by omega);have hd:=eB (zs:=zs) (j:=j) (by omega) rfl;generalize zs.getD j 0=x at hc1 hd;have HT:Hid (cW (zs.take j)=true):=ht;clear hc ht;by_cases hx:isW x=true
   . have HD:=hd.1 hx HT.out
     clear hd;go_wp2_with (go_at_call 99;refine (dT _ _).mono ?_;rintro e w' ⟨rfl,rfl⟩)
     go_round
     case rel=>exact ⟨j+1,by omega,by go_num,HD⟩
     case measure=>simp [intOf];omega
   have hx:isW x=false:=by simpa using hx
   have HD:=hd.2 hx;clear hd;go_wp2_with (go_at_call 99;refine (dT _ _).mono ?_;rintro e w' ⟨rfl,rfl⟩)
   go_ret
   exact ⟨ac (by rw [HD]),rfl⟩
 go_wp2
 go_ret
 have e:j=len:=by omega
 subst e;rw [List.take_of_length_le (by omega)] at ht;exact ⟨ac ht.symm,rfl⟩
theorem bR (w:World) (a:Option Addr) (len cap:Nat) (zs:List Int) (hz:zs.length=len) (hr:aL .i64 w a zs) (hlen:len<=2097152):
 Calls Try.prog 98 #[.slice a len cap] w fun e w'=>e=.returned (.bool (bN zs))/\aG w w':=by
 by_cases h:len<=12
 . go_enter Try.func98,Try.ntmps98
   go_wp2_with (go_at_call 85;refine (bU _ _ _ _ zs hz hr hlen).mono ?_;rintro e w' ⟨rfl,rfl⟩)
   go_ret
   exact ⟨ac (by simp [bN,hz,h]),aG.refl _⟩
 go_enter Try.func98,Try.ntmps98
 go_wp2
 go_ret
 exact ⟨ac (by simp [bN,hz,h]),aG.refl _⟩
theorem aZ (w:World) (a:Option Addr) (len cap:Nat) (zs:List Int) (hz:zs.length=len) (hr:aL .i64 w a zs) (hlen:len<=2097152):
 Calls Try.prog 90 #[.slice a len cap] w fun e w'=>e=.returned (.bool (bN zs))/\aG w w':=by
 by_cases h:len<=12
 . go_enter Try.func90,Try.ntmps90
   go_wp2
   go_loop [10] (fun i=>∃j:Nat,j<=len/\i=.int .i64 j/\cW (zs.take j)=true) (fun i=>len-(intOf i).toNat)
   case atStart=>exact ⟨0,Nat.zero_le _,rfl,rfl⟩
   obtain ⟨j,hj,rfl,ht⟩:=hrel;by_cases hlt:j<len
   . rcases hr.cases with h0|⟨b,off,rfl,hbl,hc⟩
     . omega
     have hc1:=hc j (by omega);have hd:=eB (zs:=zs) (j:=j) (by omega) rfl;generalize zs.getD j 0=x at hc1 hd;have HT:Hid (cW (zs.take j)=true):=ht;clear hc ht;by_cases hx:isW x=true
     . have HD:=hd.1 hx HT.out
       clear hd;go_wp2_with (go_at_call 103;refine (dS _ _).mono ?_;rintro e w' ⟨rfl,rfl⟩)
       go_round
       case rel=>exact ⟨j+1,by omega,by go_num,HD⟩
       case measure=>simp [intOf];omega
     have hx:isW x=false:=by simpa using hx
     have HD:=hd.2 hx;clear hd;go_wp2_with (go_at_call 103;refine (dS _ _).mono ?_;rintro e w' ⟨rfl,rfl⟩)
     go_ret
     exact ⟨ac (by simp [bN,HD]),aG.refl _⟩
   go_wp2
   go_ret
   have e:j=len:=by omega
   subst e;rw [List.take_of_length_le (by omega)] at ht;exact ⟨ac (by simp [bN,hz,h,ht]),aG.refl _⟩
 go_enter Try.func90,Try.ntmps90
 go_wp2
 go_ret
 exact ⟨ac (by simp [bN,hz,h]),aG.refl _⟩
def inL (zs:List Int) (n:Int):Bool:=zs.any fun x=>decide (x=n)
theorem eX {zs:List Int} {n x:Int} {j:Nat} (h:j<zs.length) (hx:zs.getD j 0=x):(x=n->inL zs n=true)/\(x≠n->inL (zs.take j) n=false->inL (zs.take (j+1)) n=false):=by
 have e:zs[j]=x:=by rw [←hx];simp [List.getElem?_eq_getElem h]
 refine ⟨fun h1=>?_,fun h1 h2=>?_⟩
 . unfold inL
   rw [List.any_eq_true];exact ⟨x,by rw [←e];exact List.getElem_mem h,by simp [h1]⟩
 unfold inL at *;rw [List.take_succ_eq_append_getElem h,List.any_append,h2,e];simp [h1]
theorem eC (w:World) (a:Option Addr) (len cap:Nat) (zs:List Int) (n:Int) (hz:zs.length=len) (hr:aL .i64 w a zs) (hlen:len<=2097152):
 Calls Try.prog 100 #[.slice a len cap,.int .i64 n] w fun e w'=>e=.returned (.bool (inL zs n))/\aG w w':=by
 go_enter Try.func100,Try.ntmps100
 go_wp2
 go_loop [5] (fun i=>∃j:Nat,j<=len/\i=.int .i64 j/\inL (zs.take j) n=false) (fun i=>len-(intOf i).toNat)
 case atStart=>exact ⟨0,Nat.zero_le _,rfl,rfl⟩
 obtain ⟨j,hj,rfl,ht⟩:=hrel;by_cases hlt:j<len
 . rcases hr.cases with h0|⟨b,off,rfl,hbl,hc⟩
   . omega
   have hc1:=hc j (by omega);have hd:=eX (zs:=zs) (n:=n) (j:=j) (by omega) rfl;generalize zs.getD j 0=x at hc1 hd;have HT:=ab ht;clear hc ht;by_cases hx:x=n
   . have HD:=ab (hd.1 hx)
     clear hd;go_wp2
     go_ret
     exact ⟨ac HD.out.symm,aG.refl _⟩
   have HD:=ab (hd.2 hx HT.out);clear hd;go_wp2
   go_round
   case rel=>exact ⟨j+1,by omega,by go_num,HD.out⟩
   case measure=>simp [intOf];omega
 go_wp2
 go_ret
 have e:j=len:=by omega
 subst e;rw [List.take_of_length_le (by omega)] at ht;exact ⟨ac ht.symm,aG.refl _⟩
def df (l:List Int):Int:=l.foldl (fun n x=>bits BinOp.xor IntKind.i64 n x) 0
theorem gF {zs:List Int} {j:Nat} {x:Int} (h:j<zs.length) (hx:zs.getD j 0=x):bits BinOp.xor IntKind.i64 (df (zs.take j)) x=df (zs.take (j+1)):=by
 have e:zs[j]=x:=by rw [←hx];simp [List.getElem?_eq_getElem h]
 unfold df;rw [List.take_succ_eq_append_getElem h,List.foldl_append,e];rfl
def bv (n:Int):BitVec 64:=BitVec.ofInt 64 n
def eK (v:BitVec 64):Int:=IntKind.i64.wrap (v.toNat:Int)
theorem fQ (a b:Int):bits BinOp.xor IntKind.i64 a b=eK (bv a ^^^ bv b):=rfl
theorem eL (v:BitVec 64):bv (eK v)=v:=by
 apply BitVec.eq_of_toNat_eq
 have:=v.isLt;unfold bv eK;rw [BitVec.toNat_ofInt,IntKind.wrap_i64];omega
def gG (l:List Int):BitVec 64:=l.foldl (fun v x=>v ^^^ bv x) 0
theorem gW (l:List Int) (v:BitVec 64):l.foldl (fun n x=>bits BinOp.xor IntKind.i64 n x) (eK v)=eK (l.foldl (fun v x=>v ^^^ bv x) v):=by
 induction l generalizing v with
 | nil=>rfl
 | cons x l ih=>rw [List.foldl_cons,List.foldl_cons,fQ,eL,ih]
theorem ib (l:List Int):df l=eK (gG l):=by
 have h:eK 0=0:=by decide
 unfold df gG;rw [←h,gW]
def br (zs:List Int) (k:Int) (j:Nat):Int:=(List.range j).foldl (fun (n:Int) (i:Nat)=>if (i:Int)=k then n else bits BinOp.xor IntKind.i64 n (zs.getD i 0)) 0
theorem dX (zs:List Int) (k:Int) (j:Nat):br zs k (j+1)=if (j:Int)=k then br zs k j else bits BinOp.xor IntKind.i64 (br zs k j) (zs.getD j 0):=by
 unfold br;rw [List.range_succ,List.foldl_append];rfl
theorem ic (zs:List Int) (k:Int) (j:Nat) (hj:j<=zs.length):∃v,br zs k j=eK v/\gG (zs.take j)=if 0<=k/\k<j then v ^^^ bv (zs.getD k.toNat 0) else v:=by
 induction j with
 | zero=>exact ⟨0,(by decide:(0:Int)=eK 0),by rw [if_neg (by omega)];rfl⟩
 | succ j ih=>
  obtain ⟨v,hv,hx⟩:=ih (by omega);have hs:gG (zs.take (j+1))=gG (zs.take j) ^^^ bv (zs.getD j 0):=by
   unfold gG;rw [List.take_succ_eq_append_getElem (by omega),List.foldl_append];simp [List.getElem?_eq_getElem (show j<zs.length by omega)]
  rw [dX,hs,hx];by_cases hk:(j:Int)=k
  . subst hk
    refine ⟨v,by rw [if_pos rfl];exact hv,?_⟩
    rw [if_neg (by omega),if_pos (by omega),Int.toNat_natCast]
  refine ⟨v ^^^ bv (zs.getD j 0),by rw [if_neg hk,hv,fQ,eL],?_⟩
  by_cases h1:0<=k/\k<j
  . rw [if_pos h1,if_pos (by omega),BitVec.xor_assoc,BitVec.xor_comm (bv (zs.getD k.toNat 0)),BitVec.xor_assoc]
  rw [if_neg h1,if_neg (by omega)]
theorem gX (zs:List Int) (k:Int):br zs k zs.length=if 0<=k/\k<zs.length then bits BinOp.xor IntKind.i64 (df zs) (zs.getD k.toNat 0) else df zs:=by
 obtain ⟨v,hv,hx⟩:=ic zs k zs.length (Nat.le_refl _);rw [List.take_length] at hx;rw [hv,ib,hx];by_cases h:0<=k/\k<zs.length
 . rw [if_pos h,if_pos h,fQ,eL,BitVec.xor_assoc,BitVec.xor_self,BitVec.xor_zero]
 rw [if_neg h,if_neg h]
theorem ep (w:World) (a:Option Addr) (len cap:Nat) (zs:List Int) (hz:zs.length=len) (hr:aL .i64 w a zs) (hlen:len<=2097152):
 Calls Try.prog 69 #[.slice a len cap] w fun e w'=>e=.returned (.int .i64 (df zs))/\aG w w':=by
 go_enter Try.func69,Try.ntmps69
 go_wp2
 go_loop [3,8] (fun n i=>∃j:Nat,j<=len/\i=.int .i64 j/\n=.int .i64 (df (zs.take j))) (fun _ i=>len-(intOf i).toNat)
 case atStart=>exact ⟨0,Nat.zero_le _,rfl,rfl⟩
 obtain ⟨j,hj,rfl,rfl⟩:=hrel;by_cases hlt:j<len
 . rcases hr.cases with h0|⟨b,off,rfl,hbl,hc⟩
   . omega
   have hc1:=hc j (by omega);have HX:Hid (bits BinOp.xor IntKind.i64 (df (zs.take j)) (zs.getD j 0)=df (zs.take (j+1))):=gF (by omega) rfl;generalize zs.getD j 0=x at hc1 HX;clear hc;go_wp2
   go_round
   case rel=>exact ⟨j+1,by omega,by go_num,by rw [HX.out]⟩
   case measure=>simp [intOf];omega
 go_wp2
 go_ret
 have e:j=len:=by omega
 subst e;exact ⟨ar (by rw [List.take_of_length_le (by omega)]),aG.refl _⟩
theorem dg (w:World) (a:Option Addr) (len cap:Nat) (zs:List Int) (k:Int) (hz:zs.length=len) (hr:aL .i64 w a zs) (hlen:len<=2097152):
 Calls Try.prog 42 #[.slice a len cap,.int .i64 k] w fun e w'=>e=.returned (.int .i64 (br zs k len))/\aG w w':=by
 have HS:Hid (br zs k len=if 0<=k/\k<len then bits BinOp.xor IntKind.i64 (df zs) (zs.getD k.toNat 0) else df zs):=by unfold Hid;rw [←hz];exact gX zs k
 go_enter Try.func42,Try.ntmps42
 go_wp2_with fail
 refine (ep _ _ _ _ zs hz hr hlen).mono ?_
 rintro e w1 ⟨rfl,hs⟩;by_cases h0:0<=k
 . by_cases h1:k<len
   . obtain ⟨k,rfl⟩:=Int.eq_ofNat_of_zero_le h0
     rcases hr.cases with h2|⟨b,off,rfl,hbl,hc⟩
     . omega
     have hc1:=(hs.cell ⟨b,off+k,none⟩).trans (hc k (by omega));have HE:Hid (br zs k len=bits BinOp.xor IntKind.i64 (df zs) (zs.getD k 0)):=by unfold Hid;rw [HS.out,if_pos ⟨h0,h1⟩,Int.toNat_natCast]
     clear hc HS;generalize zs.getD k 0=x at hc1 HE;go_wp2
     go_ret
     exact ⟨ar HE.out.symm,hs⟩
   have HE:Hid (br zs k len=df zs):=by unfold Hid;rw [HS.out,if_neg (by omega)]
   go_wp2
   go_ret
   exact ⟨ar HE.out.symm,hs⟩
 have HE:Hid (br zs k len=df zs):=by unfold Hid;rw [HS.out,if_neg (by omega)]
 go_wp2
 go_ret
 exact ⟨ar HE.out.symm,hs⟩
theorem dh (w:World) (a:Option Addr) (len cap:Nat) (zs:List Int) (k:Int) (hz:zs.length=len) (hr:aL .i64 w a zs) (hlen:len<=2097152):
 Calls Try.prog 61 #[.slice a len cap,.int .i64 k] w fun e w'=>e=.returned (.int .i64 (br zs k len))/\aG w w':=by
 go_enter Try.func61,Try.ntmps61
 go_wp2
 go_loop [5,6] (fun n i=>∃j:Nat,j<=len/\i=.int .i64 j/\n=.int .i64 (br zs k j)) (fun _ i=>len-(intOf i).toNat)
 case atStart=>exact ⟨0,Nat.zero_le _,rfl,rfl⟩
 obtain ⟨j,hj,rfl,rfl⟩:=hrel;by_cases hlt:j<len
 . have hs:=dX zs k j
   by_cases hk:(j:Int)=k
   . have hkb:((j:Int)==k)=true:=by simpa using hk
     have HX:Hid (br zs k (j+1)=br zs k j):=by unfold Hid;rw [hs,if_pos hk]
     clear hs;go_wp2
     go_round
     case rel=>exact ⟨j+1,by omega,by go_num,by rw [HX.out]⟩
     case measure=>simp [intOf];omega
   have hkb:((j:Int)==k)=false:=by simpa using hk
   have HX:Hid (br zs k (j+1)=bits BinOp.xor IntKind.i64 (br zs k j) (zs.getD j 0)):=by unfold Hid;rw [hs,if_neg hk]
   clear hs;rcases hr.cases with h0|⟨b,off,rfl,hbl,hc⟩
   . omega
   have hc1:=hc j (by omega);generalize zs.getD j 0=x at hc1 HX;clear hc;go_wp2
   go_round
   case rel=>exact ⟨j+1,by omega,by go_num,by rw [HX.out]⟩
   case measure=>simp [intOf];omega
 go_wp2
 go_ret
 have e:j=len:=by omega
 subst e;exact ⟨rfl,aG.refl _⟩
theorem bp (w:World) (n s:Int) (h1:3<=n) (h2:n<=5):Calls Try.prog 46 #[.agg #[.int .i64 n,.int .i64 s]] w fun e w'=>e=.returned (.int .i64 (n-1))/\Below w.heap.size w w':=by
 have hA:=ai w (.cells #[.int .i64 n,.int .i64 s] 30);obtain ⟨k0,k1⟩:=(cL.new w 30 n s).cells;go_enter Try.func46,Try.ntmps46
 go_wp2
 go_ret
 exact ⟨ar (by first|rfl|omega),hA⟩
theorem ei {n s t:Int}:cJ n s t=true ↔ cp n s=true/\0<=t/\t<s:=by unfold cJ;rw [Bool.and_eq_true,bQ];constructor<;>(rintro ⟨a,b⟩;exact ⟨a,by omega⟩)
theorem bW {n s t:Int}:cJ n s t=false ↔ ¬(cp n s=true/\0<=t/\t<s):=by rw [←ei];simp
theorem aU (w:World) (n s t:Int):Calls Try.prog 40 #[.agg #[.int .i64 n,.int .i64 s],.int .i64 t] w fun e w'=>e=.returned (.bool (cJ n s t))/\Below w.heap.size w w':=by
 have hA:=ai w (.cells #[.int .i64 n,.int .i64 s] 30);have X:=cL.new w 30 n s;obtain ⟨k0,k1⟩:=X.cells;have zA:=X.lt;go_enter Try.func40,Try.ntmps40
 go_wp2_with fail
 refine (dj _ _ _).mono ?_
 rintro e w1 ⟨rfl,b1⟩;have X1:=X.below b1 zA;obtain ⟨p0,p1⟩:=X1.cells;have B1:=Below.andThen hA b1;clear k0 k1 X b1 hA zA;by_cases hg:cp n s=true
 . by_cases h1:0<=t
   . by_cases h2:t<s
     . go_wp2
       go_ret
       exact ⟨ac (by symm;rw [ei];exact ⟨hg,h1,h2⟩),B1⟩
     go_wp2
     go_ret
     exact ⟨ac (by first|(exact (bW.2 (by omega)).symm)|(rw [bW.2 (by omega)];simp;omega)),B1⟩
   go_wp2
   go_ret
   exact ⟨ac (by first|(exact (bW.2 (by omega)).symm)|(rw [bW.2 (by omega)];simp;omega)),B1⟩
 have hg:cp n s=false:=by simpa using hg
 go_wp2
 go_ret
 exact ⟨ac (by symm;rw [bW];simp [hg]),B1⟩
end Go.Proofs.Ytfimpohbpccjaaa
