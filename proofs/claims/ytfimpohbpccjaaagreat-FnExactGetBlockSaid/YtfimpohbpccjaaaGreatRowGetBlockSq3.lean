/-
 The walks of both DiskOf, and of the specification's Blocks, ParityOf, StripeOf, IndexOf and BlockAt. No condition.
-/
import Derived.Test.YtfimpohbpccjaaaGreatRowGetBlockSq1
import Derived.OrdersHeld
import Derived.RegionTactic

set_option maxRecDepth 100000
set_option maxHeartbeats 8000000
set_option linter.unusedSimpArgs false

namespace Go.Proofs.YtfimpohbpccjaaaGreat
open Go.RowKit

def dc (P:Program) (ops:Array Oper) (Q:Exit->Act->World->Prop) (S:World->Prop) (k:Nat):Nat->Array Bool->Act->World->Prop
 | 0,l,a,w=>Region.ready .any ops l=[]/\Q .normal a w
 | n+1,l,a,w=>(Region.ready .any ops l=[]->Q .normal a w)/\∀j∈Region.ready .any ops l,wpOp P ops Q j (fun a' w'=>(j≠k->S w')/\dc P ops Q S k n (l.setIfInBounds j true) a' w') a w
section
variable {P:Program} {ops:Array Oper} {Q:Exit->Act->World->Prop} {S:World->Prop} {k:Nat}
theorem dc.any:∀(n:Nat) (l:Array Bool) (a:Act) (w:World),dc P ops Q S k n l a w->wpAny P .any ops Q n l a w
 | 0,_,_,_,h=>h
 | n+1,_,_,_,h=>⟨h.1,fun j hj=>wpOp_mono (fun a' w' h'=>dc.any n _ a' w' h'.2) (h.2 j hj)⟩
theorem iF {l:Array Bool} {i:Nat} (h0:l.getD i true=false) (h1:l.getD i false=true):False:=by
 by_cases hi:i<l.size
 . simp [hi] at h0 h1
   rw [h0] at h1;cases h1
 simp [Array.getElem?_eq_none (Nat.le_of_not_lt hi)] at h1
theorem dc.first {i:Nat} {oi ok:Oper} {v:Value} (hi:ops[i]?=some oi) (hk:ops[k]?=some ok) (hki:∃e∈ok.after,Region.binds .any e=true/\e.on=i)
 (hsel:∀(j:Nat) (o:Oper) cs b,ops[j]?=some o->o.op≠.select cs b) (hQ:∀c a w,Q (.panic c) (a.put oi.dst v) w->Q (.panic c) a w) (n:Nat):
 ∀(l:Array Bool) (a:Act) (w:World),
  (∀j oj,ops[j]?=some oj->j≠i->l.getD j true=false->(∀e∈oj.after,Region.binds .any e=true->e.on≠i)->oi.apart ops oj=true) ->
  i∈Region.ready .any ops l->YieldsIf P ops S oi v a->S w->dc P ops Q S k n (l.setIfInBounds i true) (a.put oi.dst v) w->dc P ops Q S k (n+1) l a w:=by
 induction n with
 | zero=>
  intro l a w _ hr hy hS H;constructor
  . intro h
    rw [h] at hr;simp at hr
  intro j hj;by_cases hji:j=i
  . rw [hji]
    exact hy.wpOp hi hS ⟨fun _=>hS,H⟩
  have h2:=ready_mono (i:=i) hj hji;rw [H.1] at h2;simp at h2
 | succ n ih=>
  intro l a w hfree hr hy hS H;constructor
  . intro h
    rw [h] at hr;simp at hr
  intro j hj;by_cases hji:j=i
  . rw [hji]
    exact hy.wpOp hi hS ⟨fun _=>hS,H⟩
  obtain ⟨hju,oj,hoj,hall⟩:=mem_ready.1 hj;have hiu:=(mem_ready.1 hr).1;have hno:∀e∈oj.after,Region.binds .any e=true->e.on≠i:=fun e he hb hon=>iF hiu (hon▸hall e he hb);have hjk:j≠k:=by
   intro hjk;rw [hjk,hk] at hoj;obtain ⟨e,he,hb,hon⟩:=hki;cases hoj;exact hno e he hb hon
  have h1:=H.2 j (ready_mono hj hji);have h2:=wpOp_putIf hoj (hfree j oj hoj hji hju hno) (fun cs b=>hsel i oi cs b hi) (fun cs b=>hsel j oj cs b hoj) hQ hy h1;refine wpOp_mono ?_ h2
  intro a' w' h3;have hS':=h3.2.1 hjk;refine ⟨fun _=>hS',ih _ a' w' ?_ (ready_mono hr (Ne.symm hji)) h3.1 hS' ?_⟩
  . intro m om hm hmi hun hnm
    refine hfree m om hm hmi ?_ hnm
    by_cases hjm:j=m
    . rw [←hjm]
      exact hju
    rw [getD_set_ne true hjm] at hun;exact hun
  rw [Array.setIfInBounds_comm _ _ hji];exact h3.2.2
theorem ff {i:Nat} {o:Oper} {tl:List Oper} (h:ops.toList.drop i=o :: tl):ops[i]?=some o:=by
 have h1:(ops.toList.drop i)[0]?=some o:=by rw [h];rfl
 rw [List.getElem?_drop] at h1;simpa using h1
theorem dc.take {i:Nat} {oi:Oper} {v:Value} {n:Nat} {l:Array Bool} {a:Act} {w:World} {tl:List Oper} (hi':ops.toList.drop i=oi :: tl)
 (hki:((ops[k]?).map fun o=>o.after.any fun e=>Region.binds .any e&&e.on==i)=some true) (hs:Region.noSelect ops=true) (hf:Region.free .any ops l i=true) (hr:(Region.ready .any ops l).contains i=true)
 (hQ:∀c a w,Q (.panic c) (a.put oi.dst v) w->Q (.panic c) a w) (hy:YieldsIf P ops S oi v a) (hS:S w) (h:dc P ops Q S k n (l.setIfInBounds i true) (a.put oi.dst v) w):dc P ops Q S k (n+1) l a w:=by
 have hi:=ff hi';cases hk:ops[k]? with
 | none=>rw [hk] at hki;cases hki
 | some ok=>
  rw [hk] at hki;simp only [Option.map_some,Option.some.injEq,Array.any_eq_true',Bool.and_eq_true,beq_iff_eq] at hki
  exact dc.first hi hk hki (Region.noSelect_spec hs) hQ n l a w (Region.free_spec hi hf) (by simpa using hr) hy hS h
theorem dc.one {i:Nat} {o:Oper} {n:Nat} {l:Array Bool} {a:Act} {w:World} {tl:List Oper} (hr:Region.ready .any ops l=[i]) (ho:ops.toList.drop i=o :: tl)
 (h:∀K':Act->World->Prop,Shut (∀a w,(i≠k->S w)->dc P ops Q S k n (l.setIfInBounds i true) a w->K' a w)->if Region.wanted o (yielded ops a.tmps)=true then Oper.wp P o a w K' Q else K' (a.put o.dst undef) w):dc P ops Q S k (n+1) l a w:=by
 constructor
 . intro h0
   rw [hr] at h0;simp at h0
 intro j hj;rw [hr] at hj;simp at hj
 rw [hj];exact wpOp_step (ff ho) (fun K' hK=>h K' (fun a w hS hW=>hK a w ⟨hS,hW⟩))
theorem dc.done {l:Array Bool} {a:Act} {w:World} (hr:Region.ready .any ops l=[]) (h:Q .normal a w):∀n,dc P ops Q S k n l a w
 | 0=>⟨hr,h⟩
 | _+1=>⟨fun _=>h,by rw [hr];simp⟩
end
variable {P:Program} {ops:Array Oper} {Q:Exit->Act->World->Prop} {S:World->Prop}
theorem ak {i:Nat} {oi:Oper} {v:Value} {fuel:Nat} {l:Array Bool} {a:Act} {w:World} {tl:List Oper} (hi:ops.toList.drop i=oi :: tl)
 (hs:Region.noSelect ops=true) (hf:Region.free .any ops l i=true) (hr:(Region.ready .any ops l).contains i=true)
 (hQ:∀c a w,Q (.panic c) (a.put oi.dst v) w->Q (.panic c) a w) (hw:Region.wanted oi (yielded ops a.tmps)=true) (hy:∀w,S w->(execOp a.eval oi).run P w=.ok (.value v) w) (hS:S w)
 (h:wpAnyH P .any ops Q S fuel (l.setIfInBounds i true) (a.put oi.dst v) w):wpAnyH P .any ops Q S (fuel+1) l a w:=
 wpAnyH_take (ff hi) hs hf hr hQ (Or.inl ⟨hw,hy⟩) hS h
theorem ie {i:Nat} {oi:Oper} {fuel:Nat} {l:Array Bool} {a:Act} {w:World} {tl:List Oper} (hi:ops.toList.drop i=oi :: tl)
 (hs:Region.noSelect ops=true) (hf:Region.free .any ops l i=true) (hr:(Region.ready .any ops l).contains i=true)
 (hQ:∀c a w,Q (.panic c) (a.put oi.dst undef) w->Q (.panic c) a w) (hw:Region.wanted oi (yielded ops a.tmps)=false) (hS:S w)
 (h:wpAnyH P .any ops Q S fuel (l.setIfInBounds i true) (a.put oi.dst undef) w):wpAnyH P .any ops Q S (fuel+1) l a w:=
 wpAnyH_take (ff hi) hs hf hr hQ (Or.inr ⟨hw,rfl⟩) hS h
theorem ah {i:Nat} {o:Oper} {fuel:Nat} {l:Array Bool} {a:Act} {w:World} {tl:List Oper} (hr:Region.ready .any ops l=[i]) (ho:ops.toList.drop i=o :: tl) (hw:Region.wanted o (yielded ops a.tmps)=true)
 (h:∀K':Act->World->Prop,Shut (∀a w,S w->(S w->wpAnyH P .any ops Q S fuel (l.setIfInBounds i true) a w)->K' a w)->Oper.wp P o a w K' Q):wpAnyH P .any ops Q S (fuel+1) l a w:=
 wpAnyH_ready hr (by simp) (AllReadyH.cons (ff ho) (fun K' hK=>by rw [if_pos hw];exact h K' hK) AllReadyH.nil)
theorem aa (i:Nat) {oi:Oper} {v:Value} {fuel:Nat} {l:Array Bool} {a a':Act} {w:World} {tl:List Oper} (hS:S w) (h:wpAnyH P .any ops Q S fuel (l.setIfInBounds i true) a' w) (hi:ops.toList.drop i=oi :: tl:=by rfl)
 (hs:Region.noSelect ops=true:=by kernel_rfl) (hf:Region.free .any ops l i=true:=by kernel_rfl) (hr:(Region.ready .any ops l).contains i=true:=by kernel_rfl)
 (hQ:∀c a w,Q (.panic c) (a.put oi.dst v) w->Q (.panic c) a w:=by exact fun _ _ _ h=>h) (hw:Region.wanted oi (yielded ops a.tmps)=true:=by kernel_rfl)
 (hy:∀w,S w->(execOp a.eval oi).run P w=.ok (.value v) w:=by (intro w hSw;(try dsimp only at hSw);go_split_ands;go_simp;first|done|with_reducible rfl))
 (ha:a.put oi.dst v=a':=by (simp only [Act.put,List.setIfInBounds_toArray,List.set_cons_zero,List.set_cons_succ];first|done|rfl)):wpAnyH P .any ops Q S (fuel+1) l a w:=ak hi hs hf hr hQ hw hy hS (ha▸h)
theorem cF {i:Nat} {o:Oper} {fuel:Nat} {l:Array Bool} {a:Act} {w:World} {tl:List Oper} (hr:Region.ready .any ops l=[i]) (ho:ops.toList.drop i=o :: tl) (hw:Region.wanted o (yielded ops a.tmps)=false) (hS:S w)
 (h:wpAnyH P .any ops Q S fuel (l.setIfInBounds i true) (a.put o.dst undef) w):wpAnyH P .any ops Q S (fuel+1) l a w:=
 wpAnyH_ready hr (by simp) (AllReadyH.cons (ff ho) (fun K' hK=>by rw [if_neg (by rw [hw];simp)];exact hK _ _ hS (fun _=>h)) AllReadyH.nil)
theorem dc.t {k:Nat} (i:Nat) {oi:Oper} {v:Value} {n:Nat} {l:Array Bool} {a a':Act} {w:World} {tl:List Oper} (hS:S w) (h:dc P ops Q S k n (l.setIfInBounds i true) a' w) (hi:ops.toList.drop i=oi :: tl:=by rfl)
 (hki:((ops[k]?).map fun o=>o.after.any fun e=>Region.binds .any e&&e.on==i)=some true:=by kernel_rfl) (hs:Region.noSelect ops=true:=by kernel_rfl) (hf:Region.free .any ops l i=true:=by kernel_rfl) (hr:(Region.ready .any ops l).contains i=true:=by kernel_rfl)
 (hQ:∀c a w,Q (.panic c) (a.put oi.dst v) w->Q (.panic c) a w:=by exact fun _ _ _ h=>h) (hw:Region.wanted oi (yielded ops a.tmps)=true:=by rfl) (hy:∀w,S w->(execOp a.eval oi).run P w=.ok (.value v) w:=by (intro w hSw;(try dsimp only at hSw);go_split_ands;go_simp;first|done|with_reducible rfl)) (ha:a.put oi.dst v=a':=by (simp only [Act.put,List.setIfInBounds_toArray,List.set_cons_zero,List.set_cons_succ];first|done|rfl)):dc P ops Q S k (n+1) l a w:=
 dc.take hi hki hs hf hr hQ (Or.inl ⟨hw,hy⟩) hS (ha▸h)
theorem ae (i:Nat) {oi:Oper} {fuel:Nat} {l:Array Bool} {a a':Act} {w:World} {tl:List Oper} (hS:S w) (h:wpAnyH P .any ops Q S fuel (l.setIfInBounds i true) a' w) (hi:ops.toList.drop i=oi :: tl:=by rfl)
 (hs:Region.noSelect ops=true:=by kernel_rfl) (hf:Region.free .any ops l i=true:=by kernel_rfl) (hr:(Region.ready .any ops l).contains i=true:=by kernel_rfl)
 (hQ:∀c a w,Q (.panic c) (a.put oi.dst undef) w->Q (.panic c) a w:=by exact fun _ _ _ h=>h) (hw:Region.wanted oi (yielded ops a.tmps)=false:=by kernel_rfl)
 (ha:a.put oi.dst undef=a':=by (simp only [Act.put,List.setIfInBounds_toArray,List.set_cons_zero,List.set_cons_succ];first|done|rfl)):wpAnyH P .any ops Q S (fuel+1) l a w:=ie hi hs hf hr hQ hw hS (ha▸h)
theorem aW (w:World) (n s:Int) (h1:3<=n) (h2:n<=5):Calls Tryz.prog 54 #[.agg #[.int .i64 n,.int .i64 s]] w fun e w'=>e=.returned (.int .i64 (n-1))/\Below w.heap.size w w':=by
 have hA:=af w (.cells #[.int .i64 n,.int .i64 s] 31);obtain ⟨k0,k1⟩:=(bp.new w 31 n s).cells;go_enter Tryz.func54,Tryz.ntmps54
 go_wp2
 go_ret
 exact ⟨ai (by first|rfl|omega),hA⟩
theorem dw (w:World) (n s:Int):Calls Tryz.prog 53 #[.agg #[.int .i64 n,.int .i64 s]] w fun e w'=>e=.returned (.int .i64 (bg n s))/\Below w.heap.size w w':=by
 have hA:=af w (.cells #[.int .i64 n,.int .i64 s] 31);have X:=bp.new w 31 n s;obtain ⟨k0,k1⟩:=X.cells;have zA:=X.lt;go_enter Tryz.func53,Tryz.ntmps53
 go_wp2_with fail
 refine (cY _ _ _).mono ?_
 rintro e w1 ⟨rfl,b1⟩;have X1:=X.below b1 zA;have z1:=X1.lt;obtain ⟨p0,p1⟩:=X1.cells;have B1:=Below.andThen hA b1;clear k0 k1 X b1 hA zA;by_cases hg:bo n s=true
 . obtain ⟨h1,h2,h3,h4⟩:=ap.1 hg
   have hm:=dt hg;have HB:=ab (cJ hg);have gw:IntKind.i64.wrap (s*(n-1))=s*(n-1):=IntWalk.i64_in _ (by omega);go_wp2_with fail
   go_region_held3 (fun w'=>w'.cell? ⟨w.heap.size,0,none⟩=some (.int .i64 n)/\w'.cell? ⟨w.heap.size,1,none⟩=some (.int .i64 s))
    (first|(exact ⟨(b2.cell (p:=⟨w.heap.size,0,none⟩) z1).trans p0,(b2.cell (p:=⟨w.heap.size,1,none⟩) z1).trans p1⟩)|(exact ⟨p0,p1⟩)|go_keep)
    (first
     | (go_at_call 54;refine (aW _ _ _ h1 h2).mono ?_;rintro e w2 ⟨rfl,b2'⟩;have b2:Below w1.heap.size w1 w2:=(by exact (Below.refl w1.heap.size w1).drew.trans b2')))
   go_wp2
   go_ret
   exact ⟨ai (by rw [HB.out]),Below.andThen B1 b2⟩
 have hg:bo n s=false:=by simpa using hg
 go_wp2
 go_ret
 exact ⟨ai (cp hg).symm,B1⟩
theorem bK {n s t:Int}:aH n s t=true ↔ bo n s=true/\0<=t/\t<s:=by unfold aH;rw [Bool.and_eq_true,aP];constructor<;>(rintro ⟨a,b⟩;exact ⟨a,by omega⟩)
theorem cw {n s t:Int}:aH n s t=false ↔ ¬(bo n s=true/\0<=t/\t<s):=by rw [←bK];simp
theorem aN (w:World) (n s t:Int):Calls Tryz.prog 36 #[.agg #[.int .i64 n,.int .i64 s],.int .i64 t] w fun e w'=>e=.returned (.bool (aH n s t))/\Below w.heap.size w w':=by
 have hA:=af w (.cells #[.int .i64 n,.int .i64 s] 31);have X:=bp.new w 31 n s;obtain ⟨k0,k1⟩:=X.cells;have zA:=X.lt;go_enter Tryz.func36,Tryz.ntmps36
 go_wp2_with fail
 refine (cY _ _ _).mono ?_
 rintro e w1 ⟨rfl,b1⟩;have X1:=X.below b1 zA;obtain ⟨p0,p1⟩:=X1.cells;have B1:=Below.andThen hA b1;clear k0 k1 X b1 hA zA;by_cases hg:bo n s=true
 . by_cases h1:0<=t
   . by_cases h2:t<s
     . go_wp2
       go_ret
       exact ⟨ac (by symm;rw [bK];exact ⟨hg,h1,h2⟩),B1⟩
     go_wp2
     go_ret
     exact ⟨ac (by first|(exact (cw.2 (by omega)).symm)|(rw [cw.2 (by omega)];simp;omega)),B1⟩
   go_wp2
   go_ret
   exact ⟨ac (by first|(exact (cw.2 (by omega)).symm)|(rw [cw.2 (by omega)];simp;omega)),B1⟩
 have hg:bo n s=false:=by simpa using hg
 go_wp2
 go_ret
 exact ⟨ac (by symm;rw [cw];simp [hg]),B1⟩
theorem dS (w:World) (n s t:Int):Calls Tryz.prog 83 #[.agg #[.int .i64 n,.int .i64 s],.int .i64 t] w fun e w'=>e=.returned (.int .i64 (eh n s t))/\Below w.heap.size w w':=by
 have hA:=af w (.cells #[.int .i64 n,.int .i64 s] 31);have X:=bp.new w 31 n s;obtain ⟨k0,k1⟩:=X.cells;have zA:=X.lt;go_enter Tryz.func83,Tryz.ntmps83
 go_wp2_with fail
 refine (aN _ _ _ _).mono ?_
 rintro e w1 ⟨rfl,b1⟩;have X1:=X.below b1 zA;obtain ⟨p0,p1⟩:=X1.cells;have B1:=Below.andThen hA b1;clear k0 k1 X b1 hA zA;by_cases hg:aH n s t=true
 . obtain ⟨hg1,h1,h2⟩:=bK.1 hg
   obtain ⟨g1,g2,g3,g4⟩:=ap.1 hg1;have hm1:0<=t % n:=Int.emod_nonneg _ (by omega);have hm2:t % n<n:=Int.emod_lt_of_pos _ (by omega);have HB:Hid (eh n s t=n-1-t % n):=by unfold Hid eh;rw [if_pos hg]
   go_wp2_with fail
   go_quiet (fail)
   go_wp2
   go_ret
   exact ⟨ai (by rw [HB.out]),Below.andSame B1 ((aG.refl _).drewN _)⟩
 have hg':aH n s t=false:=by simpa using hg
 go_wp2
 go_ret
 exact ⟨ai (by unfold eh;rw [if_neg hg]),B1⟩
theorem bR {n s b:Int}:aU n s b=true ↔ 0<=b/\b<bg n s:=by unfold aU;rw [aP];omega
theorem eC {n s b:Int}:aU n s b=false ↔ ¬(0<=b/\b<bg n s):=by rw [←bR];simp
theorem dI {n s b:Int} (h:aU n s b=true):bo n s=true:=by
 rw [bR] at h;by_cases hg:bo n s=true
 . exact hg
 rw [cp (by simpa using hg)] at h;omega
theorem dx (w:World) (n s b:Int):Calls Tryz.prog 34 #[.agg #[.int .i64 n,.int .i64 s],.int .i64 b] w fun e w'=>e=.returned (.agg #[.int .i64 (ao n s b),.int .i64 (aR n s b)])/\Below w.heap.size w w':=by
 have hA:Below w.heap.size w ((w.alloc (.cells #[.int .i64 n,.int .i64 s] 31)).alloc (.cells #[.int .i64 0,.int .i64 0] 70)):=(af w _).alloc (by simp) _;have X:bp ((w.alloc (.cells #[.int .i64 n,.int .i64 s] 31)).alloc (.cells #[.int .i64 0,.int .i64 0] 70)) w.heap.size 31 n s:=(bp.new w 31 n s).below (af _ _) (by simp);have Y:bp ((w.alloc (.cells #[.int .i64 n,.int .i64 s] 31)).alloc (.cells #[.int .i64 0,.int .i64 0] 70)) (w.heap.size+1) 70 0 0:=by
  have:=bp.new (w.alloc (.cells #[.int .i64 n,.int .i64 s] 31)) 70 0 0;simpa using this
 obtain ⟨k0,k1⟩:=X.cells;obtain ⟨j0,j1⟩:=Y.cells;have f0:=Y.frozen 0;have f1:=Y.frozen 1;go_enter Tryz.func34,Tryz.ntmps34
 by_cases h0:0<=b
 . go_wp2_with fail
   refine (dw _ _ _).mono ?_
   rintro e w1 ⟨rfl,b1⟩;have hz:w.heap.size+1<((w.alloc (.cells #[.int .i64 n,.int .i64 s] 31)).alloc (.cells #[.int .i64 0,.int .i64 0] 70)).heap.size:=by simp
   have X1:=X.below b1 (by omega);have Y1:=Y.below b1 hz;have B1:=hA.trans (b1.mono hA.size);have hr:=ck n s;clear k0 k1 j0 j1 f0 f1 X Y hA b1 hz;obtain ⟨k0,k1⟩:=X1.cells;obtain ⟨j0,j1⟩:=Y1.cells;have f0:=Y1.frozen 0;have f1:=Y1.frozen 1;have z1:=Y1.lt;by_cases h1:b<bg n s
   . have hb:=bR.2 ⟨h0,h1⟩
     obtain ⟨g1,g2,g3,g4⟩:=ap.1 (dI hb);have HS:Hid (ao n s b=b / (n-1)):=by unfold Hid ao;rw [if_pos hb]
     have HI:Hid (aR n s b=b % (n-1)):=by unfold Hid aR;rw [if_pos hb]
     have d1:0<=b / (n-1):=Int.ediv_nonneg (by omega) (by omega);have d2:b / (n-1)<=b:=Int.ediv_le_self _ (by omega);have d3:0<=b % (n-1):=Int.emod_nonneg _ (by omega);have d4:b % (n-1)<n-1:=Int.emod_lt_of_pos _ (by omega);have e1:¬n-1=0:=by omega
     have e3:b.tmod (n-1)=b % (n-1):=Int.tmod_eq_emod_of_nonneg h0;have e2:IntKind.i64.wrap (b.tdiv (n-1))=b / (n-1):=by rw [Int.tdiv_eq_ediv_of_nonneg h0];exact IntWalk.i64_in _ (by omega)
     go_wp2_with fail
     go_region_held3 (fun w'=>w'.cell? ⟨w.heap.size,0,none⟩=some (.int .i64 n)/\w'.cell? ⟨w.heap.size,1,none⟩=some (.int .i64 s))
      (first|(exact X3.cells)|(exact X2.cells)|(exact X1.cells)|go_keep)
      (first
       | (go_at_call 54;refine (aW _ _ _ g1 g2).mono ?_;rintro e w3 ⟨rfl,b3⟩;have B3:=Below.andThen B2 b3;have X3:=X2.below b3 X2.lt;have Y3:=Y2.below b3 Y2.lt;obtain ⟨k0,k1⟩:=X3.cells;obtain ⟨j0,j1⟩:=Y3.cells;have f0:=Y3.frozen 0;have f1:=Y3.frozen 1)
       | (go_at_call 54;refine (aW _ _ _ g1 g2).mono ?_;rintro e w2 ⟨rfl,b2⟩;have B2:=Below.andThen B1.drew b2;have X2:=X1.drew.below b2 X1.lt;have Y2:=Y1.drew.below b2 Y1.lt;obtain ⟨k0,k1⟩:=X2.cells))
     have Z:=Y3.set2 (b / (n-1)) (b % (n-1));have BZ:=(B3.setCell (p:=⟨w.heap.size+1,0,none⟩) (by simp) (.int .i64 (b / (n-1)))).setCell (p:=⟨w.heap.size+1,1,none⟩) (by simp) (.int .i64 (b % (n-1)));generalize ((w3.setCell ⟨w.heap.size+1,0,none⟩ (.int .i64 (b / (n-1)))).setCell ⟨w.heap.size+1,1,none⟩ (.int .i64 (b % (n-1))))=w4 at Z BZ ⊢;obtain ⟨q0,q1⟩:=Z.cells;go_wp2
     refine bodyPost_ret (v:=.agg #[.int .i64 (b / (n-1)),.int .i64 (b % (n-1))]) (by simp [results,Tryz.results34,go_sem,q0,q1]) rfl ?_
     exact ⟨by rw [HS.out,HI.out],BZ⟩
   have HN:aU n s b=false:=eC.2 (fun h=>h1 h.2);have Z:=Y1.set2 (-1) (-1);have BZ:=(B1.setCell (p:=⟨w.heap.size+1,0,none⟩) (by simp) (.int .i64 (-1))).setCell (p:=⟨w.heap.size+1,1,none⟩) (by simp) (.int .i64 (-1));obtain ⟨q0,q1⟩:=Z.cells;go_wp2
   refine bodyPost_ret (v:=.agg #[.int .i64 (-1),.int .i64 (-1)]) (by simp [results,Tryz.results34,go_sem,q0,q1]) rfl ?_
   exact ⟨by unfold ao aR;rw [HN];rfl,BZ⟩
 have HN:aU n s b=false:=eC.2 (fun h=>h0 h.1);clear j0 j1 k0 k1 f0 f1;go_wp2
 refine bodyPost_ret (v:=.agg #[.int .i64 (-1),.int .i64 (-1)]) (by simp [results,Tryz.results34,go_sem]) rfl ?_
 exact ⟨by unfold ao aR;rw [HN];rfl,(af w _).alloc (by simp) _⟩
def bc (x:Int):Int:=if 0<=x/\x<=1099511627776 then x+6 else -1
theorem bU (w:World) (x:Int):Calls Tryz.prog 93 #[.int .i64 x] w fun e w'=>e=.returned (.int .i64 (bc x))/\w'=w:=by
 by_cases h:0<=x/\x<=1099511627776
 . have e2:IntKind.i64.wrap (x+2)=x+2:=IntWalk.i64_in _ (by omega)
   have e4:IntKind.i64.wrap (x+2+4)=x+2+4:=IntWalk.i64_in _ (by omega);have e3:IntKind.i64.wrap (6+x)=6+x:=IntWalk.i64_in _ (by omega);have hv:bc x=x+6:=by unfold bc;rw [if_pos h]
   have hi:inB x 0 1099511627776=true:=by unfold inB;simp;omega
   go_enter Tryz.func93,Tryz.ntmps93
   go_wp2_with fail
   refine (bq _ _ _ _).mono ?_
   rintro e w1 ⟨rfl,rfl⟩;rw [hi];go_wp2
   go_ret
   exact ⟨ai (by rw [hv];omega),rfl⟩
 have hv:bc x=-1:=by unfold bc;rw [if_neg h]
 have hi:inB x 0 1099511627776=false:=by unfold inB;simp;omega
 go_enter Tryz.func93,Tryz.ntmps93
 go_wp2_with fail
 refine (bq _ _ _ _).mono ?_
 rintro e w1 ⟨rfl,rfl⟩;rw [hi];go_wp2
 go_ret
 exact ⟨ai (by first|(rw [hv];done)|rfl|omega),rfl⟩
theorem eD (w:World) (x:Int):Calls Tryz.prog 89 #[.int .i64 x] w fun e w'=>e=.returned (.int .i64 (bc x))/\w'=w:=by
 by_cases h:0<=x/\x<=1099511627776
 . have e2:IntKind.i64.wrap (x+2)=x+2:=IntWalk.i64_in _ (by omega)
   have e4:IntKind.i64.wrap (x+2+4)=x+2+4:=IntWalk.i64_in _ (by omega);have e3:IntKind.i64.wrap (6+x)=6+x:=IntWalk.i64_in _ (by omega);have hv:bc x=x+6:=by unfold bc;rw [if_pos h]
   have hi:inB x 0 1099511627776=true:=by unfold inB;simp;omega
   go_enter Tryz.func89,Tryz.ntmps89
   go_wp2_with fail
   refine (al _ _ _ _).mono ?_
   rintro e w1 ⟨rfl,rfl⟩;rw [hi];go_wp2
   go_ret
   exact ⟨ai (by rw [hv];omega),rfl⟩
 have hv:bc x=-1:=by unfold bc;rw [if_neg h]
 have hi:inB x 0 1099511627776=false:=by unfold inB;simp;omega
 go_enter Tryz.func89,Tryz.ntmps89
 go_wp2_with fail
 refine (al _ _ _ _).mono ?_
 rintro e w1 ⟨rfl,rfl⟩;rw [hi];go_wp2
 go_ret
 exact ⟨ai (by first|(rw [hv];done)|rfl|omega),rfl⟩
def inL (zs:List Int) (n:Int):Bool:=zs.any fun x=>decide (x=n)
theorem fR {zs:List Int} {n x:Int} {j:Nat} (h:j<zs.length) (hx:zs.getD j 0=x):(x=n->inL zs n=true)/\(x≠n->inL (zs.take j) n=false->inL (zs.take (j+1)) n=false):=by
 have e:zs[j]=x:=by rw [←hx];simp [List.getElem?_eq_getElem h]
 refine ⟨fun h1=>?_,fun h1 h2=>?_⟩
 . unfold inL
   rw [List.any_eq_true];exact ⟨x,by rw [←e];exact List.getElem_mem h,by simp [h1]⟩
 unfold inL at *;rw [List.take_succ_eq_append_getElem h,List.any_append,h2,e];simp [h1]
theorem fi (w:World) (a:Option Addr) (len cap:Nat) (zs:List Int) (n:Int) (hz:zs.length=len) (hr:aQ .i64 w a zs) (hlen:len<=2097152):
 Calls Tryz.prog 96 #[.slice a len cap,.int .i64 n] w fun e w'=>e=.returned (.bool (inL zs n))/\aG w w':=by
 go_enter Tryz.func96,Tryz.ntmps96
 go_wp2
 go_loop [5] (fun i=>∃j:Nat,j<=len/\i=.int .i64 j/\inL (zs.take j) n=false) (fun i=>len-(intOf i).toNat)
 case atStart=>exact ⟨0,Nat.zero_le _,rfl,rfl⟩
 obtain ⟨j,hj,rfl,ht⟩:=hrel;by_cases hlt:j<len
 . rcases hr.cases with h0|⟨b,off,rfl,hbl,hc⟩
   . omega
   have hc1:=hc j (by omega);have hd:=fR (zs:=zs) (n:=n) (j:=j) (by omega) rfl;generalize zs.getD j 0=x at hc1 hd;have HT:=ab ht;clear hc ht;by_cases hx:x=n
   . have HD:=ab (hd.1 hx)
     clear hd;go_wp2
     go_ret
     exact ⟨ac HD.out.symm,aG.refl _⟩
   have HD:=ab (hd.2 hx HT.out);clear hd;go_wp2
   go_round
   case rel=>exact ⟨j+1,by omega,by go_num,HD.out⟩
   case measure=>simp [intOf];omega
 go_wp2
 go_ret
 have e:j=len:=by omega
 subst e;rw [List.take_of_length_le (by omega)] at ht;exact ⟨ac ht.symm,aG.refl _⟩
theorem fB (a b:Int) (w:World):Sem.run Tryz.prog (Instr.field 70 (.agg #[.int .i64 a,.int .i64 b]) 0) w=.ok (.int .i64 a) w:=rfl
theorem ga (a b:Int) (w:World):Sem.run Tryz.prog (Instr.field 70 (.agg #[.int .i64 a,.int .i64 b]) 1) w=.ok (.int .i64 b) w:=rfl
theorem dY (w:World) (n s b:Int):Calls Tryz.prog 18 #[.agg #[.int .i64 n,.int .i64 s],.int .i64 b] w fun e w'=>e=.returned (.int .i64 (ao n s b))/\Below w.heap.size w w':=by
 have hA:=af w (.cells #[.int .i64 n,.int .i64 s] 31);obtain ⟨k0,k1⟩:=(bp.new w 31 n s).cells;go_enter Tryz.func18,Tryz.ntmps18
 go_wp2_with fail
 refine (dx _ _ _ _).mono ?_
 rintro e w1 ⟨rfl,b1⟩;have hf:=fB (ao n s b) (aR n s b) w1;go_wp2
 go_ret
 exact ⟨rfl,Below.andThen hA b1⟩
theorem er (w:World) (n s b:Int):Calls Tryz.prog 21 #[.agg #[.int .i64 n,.int .i64 s],.int .i64 b] w fun e w'=>e=.returned (.int .i64 (aR n s b))/\Below w.heap.size w w':=by
 have hA:=af w (.cells #[.int .i64 n,.int .i64 s] 31);obtain ⟨k0,k1⟩:=(bp.new w 31 n s).cells;go_enter Tryz.func21,Tryz.ntmps21
 go_wp2_with fail
 refine (dx _ _ _ _).mono ?_
 rintro e w1 ⟨rfl,b1⟩;have hf:=ga (ao n s b) (aR n s b) w1;go_wp2
 go_ret
 exact ⟨rfl,Below.andThen hA b1⟩
theorem eP {n s t i:Int}:cH n s t i=true ↔ ∃b,aU n s b=true/\ao n s b=t/\aR n s b=i:=by
 constructor
 . intro h
   unfold cH at h;rw [Bool.and_eq_true,bK,aP] at h;obtain ⟨⟨hg,h1,h2⟩,h3,h4⟩:=h;obtain ⟨g1,g2,g3,g4⟩:=ap.1 hg;have hb:aU n s (t*(n-1)+i)=true:=by
    rw [bR,cJ hg];have:n=3∨n=4∨n=5:=by omega
    rcases this with rfl|rfl|rfl<;>omega
   refine ⟨t*(n-1)+i,hb,?_,?_⟩
   . unfold ao
     rw [if_pos hb];have:n=3∨n=4∨n=5:=by omega
     rcases this with rfl|rfl|rfl<;>omega
   unfold aR;rw [if_pos hb];have:n=3∨n=4∨n=5:=by omega
   rcases this with rfl|rfl|rfl<;>omega
 rintro ⟨b,hb,rfl,rfl⟩;have hg:=dI hb;have hb':=bR.1 hb;rw [cJ hg] at hb';obtain ⟨g1,g2,g3,g4⟩:=ap.1 hg;unfold cH;rw [Bool.and_eq_true,bK,aP];unfold ao aR;rw [if_pos hb,if_pos hb];have:n=3∨n=4∨n=5:=by omega
 rcases this with rfl|rfl|rfl<;>exact ⟨⟨hg,by omega⟩,by omega⟩
theorem iR {n s b:Int} (hb:aU n s b=true):cI n s (ao n s b) (aR n s b)=b:=by
 have h:=eP.2 ⟨b,hb,rfl,rfl⟩;unfold cI;rw [if_pos h];obtain ⟨g1,g2,g3,g4⟩:=ap.1 (dI hb);have hb':=bR.1 hb;unfold ao aR;rw [if_pos hb,if_pos hb];have:n=3∨n=4∨n=5:=by omega
 rcases this with rfl|rfl|rfl<;>omega
theorem et (w:World) (n s t i:Int):Calls Tryz.prog 82 #[.agg #[.int .i64 n,.int .i64 s],.int .i64 t,.int .i64 i] w fun e w'=>e=.returned (.int .i64 (cI n s t i))/\Below w.heap.size w w':=by
 have hA:Below w.heap.size w ((w.alloc (.cells #[.int .i64 n,.int .i64 s] 31)).alloc (.cells #[.int .i64 t,.int .i64 i] 70)):=(af w _).alloc (by simp) _;have X:bp ((w.alloc (.cells #[.int .i64 n,.int .i64 s] 31)).alloc (.cells #[.int .i64 t,.int .i64 i] 70)) w.heap.size 31 n s:=(bp.new w 31 n s).below (af _ _) (by simp);have Y:bp ((w.alloc (.cells #[.int .i64 n,.int .i64 s] 31)).alloc (.cells #[.int .i64 t,.int .i64 i] 70)) (w.heap.size+1) 70 t i:=by
  have:=bp.new (w.alloc (.cells #[.int .i64 n,.int .i64 s] 31)) 70 t i;simpa using this
 obtain ⟨k0,k1⟩:=X.cells;obtain ⟨x0,x1⟩:=(bp.new w 31 n s).cells;go_enter Tryz.func82,Tryz.ntmps82
 go_wp2_with fail
 refine (dw _ _ _).mono ?_
 rintro e w1 ⟨rfl,b1⟩;have hz:w.heap.size+1<((w.alloc (.cells #[.int .i64 n,.int .i64 s] 31)).alloc (.cells #[.int .i64 t,.int .i64 i] 70)).heap.size:=by simp
 have X1:=X.below b1 (by omega);have Y1:=Y.below b1 hz;have B1:=hA.trans (b1.mono hA.size);have hr:=ck n s;obtain ⟨nb,hnb⟩:=Int.eq_ofNat_of_zero_le hr.1;have HNB:=ab hnb;rw [hnb] at hr ⊢;clear k0 k1 x0 x1 X Y hA b1 hz hnb;go_wp2_with fail
 go_loopw [14] (fun c wr=>∃j:Nat,j<=nb/\c=.int .i64 j/\(∀k:Nat,k<j->¬(ao n s k=t/\aR n s k=i))/\bp wr w.heap.size 31 n s/\bp wr (w.heap.size+1) 70 t i/\Below w.heap.size w wr) (fun c _=>nb-(intOf c).toNat)
 case atStart=>exact ⟨0,Nat.zero_le _,rfl,by omega,X1,Y1,B1⟩
 obtain ⟨j,hj,rfl,hk,X2,Y2,B2⟩:=hrel;have HK:=ab hk;clear hk X1 Y1 B1;by_cases hlt:j<nb
 . have hb:aU n s j=true:=bR.2 ⟨by omega,by rw [HNB.out];omega⟩
   have HBA:=ab (iR hb);obtain ⟨k0,k1⟩:=X2.cells;obtain ⟨j0,j1⟩:=Y2.cells;generalize hS:ao n s j=S at HBA HK;generalize hI:aR n s j=I at HBA HK;have HP:∀W:World,Calls Tryz.prog 34 #[.agg #[.int .i64 n,.int .i64 s],.int .i64 (j:Int)] W fun e w'=>e=.returned (.agg #[.int .i64 S,.int .i64 I])/\Below W.heap.size W w':=by
    intro W;rw [←hS,←hI];exact dx _ _ _ _
   have HS:=ab hS;have HI:=ab hI;clear hS hI;by_cases h1:S=t
   . by_cases h2:I=i
     . subst h1 h2
       go_wp2_with fail
       go_region_held3 (fun w'=>w'.cell? ⟨w.heap.size,0,none⟩=some (.int .i64 n)/\w'.cell? ⟨w.heap.size,1,none⟩=some (.int .i64 s)/\w'.cell? ⟨w.heap.size+1,0,none⟩=some (.int .i64 S)/\w'.cell? ⟨w.heap.size+1,1,none⟩=some (.int .i64 I))
        (first|(exact ⟨X3.cells.1,X3.cells.2,Y3.cells.1,Y3.cells.2⟩)|(exact ⟨k0,k1,j0,j1⟩)|go_keep)
        (first
         | (go_at_call 34;refine (HP _).mono ?_;rintro e w3 ⟨rfl,b3⟩;have B3:=Below.andThen B2.drew b3;have X3:=X2.drew.below b3 X2.lt;have Y3:=Y2.drew.below b3 Y2.lt))
       go_wp2
       go_ret
       exact ⟨ai HBA.out.symm,B3⟩
     have n2:(I==i)=false:=by simpa using h2
     subst h1;go_wp2_with fail
     go_region_held3 (fun w'=>w'.cell? ⟨w.heap.size,0,none⟩=some (.int .i64 n)/\w'.cell? ⟨w.heap.size,1,none⟩=some (.int .i64 s)/\w'.cell? ⟨w.heap.size+1,0,none⟩=some (.int .i64 S)/\w'.cell? ⟨w.heap.size+1,1,none⟩=some (.int .i64 i))
      (first|(exact ⟨X3.cells.1,X3.cells.2,Y3.cells.1,Y3.cells.2⟩)|(exact ⟨k0,k1,j0,j1⟩)|go_keep)
      (first
       | (go_at_call 34;refine (HP _).mono ?_;rintro e w3 ⟨rfl,b3⟩;have B3:=Below.andThen B2.drew b3;have X3:=X2.drew.below b3 X2.lt;have Y3:=Y2.drew.below b3 Y2.lt))
     go_wp2
     go_roundw
     case rel=>exact ⟨j+1,by omega,by go_num,fun k hk h=>by
      by_cases hkj:k<j
      . exact HK.out k hkj h
      have:k=j:=by omega
      subst this;exact h2 (HI.out▸h.2),X3,Y3,B3⟩
     case measure=>simp [intOf];omega
   have n1:(S==t)=false:=by simpa using h1
   go_wp2_with fail
   go_region_held3 (fun w'=>w'.cell? ⟨w.heap.size,0,none⟩=some (.int .i64 n)/\w'.cell? ⟨w.heap.size,1,none⟩=some (.int .i64 s)/\w'.cell? ⟨w.heap.size+1,0,none⟩=some (.int .i64 t)/\w'.cell? ⟨w.heap.size+1,1,none⟩=some (.int .i64 i))
    (first|(exact ⟨X3.cells.1,X3.cells.2,Y3.cells.1,Y3.cells.2⟩)|(exact ⟨k0,k1,j0,j1⟩)|go_keep)
    (first
     | (go_at_call 34;refine (HP _).mono ?_;rintro e w3 ⟨rfl,b3⟩;have B3:=Below.andThen B2.drew b3;have X3:=X2.drew.below b3 X2.lt;have Y3:=Y2.drew.below b3 Y2.lt))
   go_wp2
   go_roundw
   case rel=>exact ⟨j+1,by omega,by go_num,fun k hk h=>by
    by_cases hkj:k<j
    . exact HK.out k hkj h
    have:k=j:=by omega
    subst this;exact h1 (HS.out▸h.1),X3,Y3,B3⟩
   case measure=>simp [intOf];omega
 go_wp2
 go_ret
 have e:j=nb:=by omega
 subst e;refine ⟨ai ?_,B2⟩
 unfold cI;rw [if_neg];intro h;obtain ⟨b,hb,h1,h2⟩:=eP.1 h;obtain ⟨hb0,hb1⟩:=bR.1 hb;obtain ⟨b,rfl⟩:=Int.eq_ofNat_of_zero_le hb0;rw [HNB.out] at hb1;exact HK.out b (by omega) ⟨h1,h2⟩
theorem iz {n s t i:Int} (h:cH n s t i=true):0<=cI n s t i:=by
 unfold cI;rw [if_pos h];unfold cH at h;rw [Bool.and_eq_true,bK,aP] at h;obtain ⟨⟨hg,h1,h2⟩,h3,h4⟩:=h;obtain ⟨g1,g2,g3,g4⟩:=ap.1 hg;have:n=3∨n=4∨n=5:=by omega
 rcases this with rfl|rfl|rfl<;>omega
theorem iS {n s t i:Int}:cH n s t i=true ↔ bo n s=true/\0<=t/\t<s/\0<=i/\i<=n-2:=by
 unfold cH;rw [Bool.and_eq_true,bK,aP];constructor
 . rintro ⟨⟨a,b,c⟩,d,e⟩
   exact ⟨a,b,c,d,e⟩
 rintro ⟨a,b,c,d,e⟩;exact ⟨⟨a,b,c⟩,d,e⟩
theorem eQ (w:World) (n s t i:Int):Calls Tryz.prog 59 #[.agg #[.int .i64 n,.int .i64 s],.int .i64 t,.int .i64 i] w fun e w'=>e=.returned (.int .i64 (cx n s t i))/\Below w.heap.size w w':=by
 have hA:=af w (.cells #[.int .i64 n,.int .i64 s] 31);have X:=bp.new w 31 n s;obtain ⟨k0,k1⟩:=X.cells;have zA:=X.lt;go_enter Tryz.func59,Tryz.ntmps59
 go_wp2_with fail
 refine (et _ _ _ _ _).mono ?_
 rintro e w1 ⟨rfl,b1⟩;have X1:=X.below b1 zA;have B1:=Below.andThen hA b1;clear k0 k1 X b1 hA zA;obtain ⟨k0,k1⟩:=X1.cells;by_cases hs:cH n s t i=true
 . have h0:=iz hs
   obtain ⟨hg,h1,h2,h3,h4⟩:=iS.1 hs;obtain ⟨g1,g2,g3,g4⟩:=ap.1 hg;have hm1:0<=t % n:=Int.emod_nonneg _ (by omega);have hm2:t % n<n:=Int.emod_lt_of_pos _ (by omega);have HP:eh n s t=n-1-t % n:=by unfold eh;rw [if_pos (bK.2 ⟨hg,h1,h2⟩)]
   have HPar:∀W:World,Calls Tryz.prog 83 #[.agg #[.int .i64 n,.int .i64 s],.int .i64 t] W fun e w'=>e=.returned (.int .i64 (n-1-t % n))/\Below W.heap.size W w':=by
    intro W;rw [←HP];exact dS _ _ _ _
   have HD:Hid (cx n s t i=(n-1-t % n+1+i) % n):=by unfold Hid cx;rw [if_pos hs]
   clear HP;generalize t % n=r at hm1 hm2 HPar HD;have e0:¬cI n s t i=-1:=by omega
   have e1:¬n=0:=by omega
   have e2:(n-1-r+1+i).tmod n=(n-1-r+1+i) % n:=Int.tmod_eq_emod_of_nonneg (by omega);have e3:IntKind.i64.wrap (n-1-r+1)=n-1-r+1:=IntWalk.i64_in _ (by omega);have e4:IntKind.i64.wrap (n-1-r+1+i)=n-1-r+1+i:=IntWalk.i64_in _ (by omega);have e5:(cI n s t i==-1)=false:=by simpa using e0
   go_wp2_with fail
   go_region_held3 (fun w'=>w'.cell? ⟨w.heap.size,0,none⟩=some (.int .i64 n)/\w'.cell? ⟨w.heap.size,1,none⟩=some (.int .i64 s))
    (first|(exact X2.cells)|(exact X1.cells)|go_keep)
    (first
     | (go_at_call 83;refine (HPar _).mono ?_;rintro e w2 ⟨rfl,b2⟩;have B2:=Below.andThen B1.drew b2;have X2:=X1.drew.below b2 X1.lt))
   go_wp2
   go_ret
   exact ⟨ai HD.out.symm,B2⟩
 have e0:cI n s t i=-1:=by unfold cI;rw [if_neg hs]
 have e5:(cI n s t i==-1)=true:=by simpa using e0
 go_wp2
 go_ret
 exact ⟨ai (by unfold cx;rw [if_neg hs]),B1⟩
end Go.Proofs.YtfimpohbpccjaaaGreat
