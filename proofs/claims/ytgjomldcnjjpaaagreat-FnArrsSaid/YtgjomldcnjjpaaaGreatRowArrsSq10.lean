/-
 Disks in memory of their own: plain lemmas. No condition.
-/
import Derived.Test.YtgjomldcnjjpaaaGreatRowArrsSq6
import Derived.Test.YtgjomldcnjjpaaaGreatRowArrsSq5
import Derived.Maps.Own
import Derived.Maps.OwnSet
import Derived.Maps.OwnOps
import Derived.Maps.Views
import Derived.Test.YtgjomldcnjjpaaaGreatRowArrsSq3
import Derived.Test.YtgjomldcnjjpaaaGreatRowArrsSq2

set_option maxRecDepth 100000
set_option maxHeartbeats 8000000
set_option linter.unusedSimpArgs false

namespace Go.Proofs.YtgjomldcnjjpaaaGreat
open Go.RowKit Go.Maps
def fy (v:Value):Option (DataW Value×List MemPlace):=some (.held v,[])
def cB (l:List (Int×List Int)) (q:Int):Option (List Int):=l.foldl (fun acc x=>if x.1=q then some x.2 else acc) none
theorem iK (l:List (Int×List Int)) (x:Int×List Int) (q:Int):cB (l++[x]) q=if x.1=q then some x.2 else cB l q:=by
 unfold cB;rw [List.foldl_append];rfl
def fG (w:World) (l:List (Int×List Int)) (D:DataW Value):Prop:=
 ∀q:Int,(cB l q=none->Maps.has D (.int .i64 q)=false)/\∀zs,cB l q=some zs->Maps.has D (.int .i64 q)=true/\∃a n cap,(∀z,D.atKey (.int .i64 q) z=.held (.agg #[.int .i64 q,.slice a n cap]))/\aD.Rd w [.slice a n cap] zs
theorem fG.nil (w:World):fG w [] (.map []):=fun q=>⟨fun _=>rfl,fun zs h=>by simp [cB] at h⟩
theorem fG.step {w:World} {l:List (Int×List Int)} {D:DataW Value} (h:fG w l D) (hD:IsMap D) (x0:Int) (x1:List Int) (a:Option Addr) (n cap:Nat) (hr:aD.Rd w [.slice a n cap] x1):
 fG w (l++[(x0,x1)]) (D.put (.int .i64 x0) (.held (.agg #[.int .i64 x0,.slice a n cap]))):=by
 intro q;rw [iK];by_cases hq:x0=q
 . subst hq
   simp only [if_true]
   refine ⟨fun e=>by simp at e,fun zs e=>?_⟩
   simp at e
   subst e;have hk:WideAt.IsKeyLit (.int .i64 x0):=trivial;exact ⟨has_put_same hD hk _,a,n,cap,fun z=>atKey_put_same hD hk _ _,hr⟩
 simp only [hq,if_false]
 have hne:(Lit.int .i64 q)≠Lit.int .i64 x0:=fun e=>by simp at e;exact hq e.symm
 refine ⟨fun e=>?_,fun zs e=>?_⟩
 . rw [has_put_other hne]
   exact (h q).1 e
 obtain ⟨h1,a',n',c',h2,h3⟩:=(h q).2 zs e;exact ⟨by rw [has_put_other hne];exact h1,a',n',c',fun z=>by rw [atKey_put_other hne];exact h2 z,h3⟩
theorem lq:Keyed Tryz.prog 3:=int_keyed Tryz.underlying3
theorem pP (w0 w:World) (hb0:Below w0.heap.size w0 w) (E:TypeId) (a:Option Addr) (n cap:Nat) (d:List (Int×List Int)) (h:(aW E).Rd w0 [.slice a n cap] d) (hn:n<=2097152) (hd:∀x∈d,0<=x.1/\x.1<=20):
 Calls Tryz.prog 108 #[.slice a n cap] w fun e w'=>e=.returned (.map (some w.heap.size))/\Below w.heap.size w w'/\∃D,w'.ownsMap Tryz.prog 3 fy w.heap.size n D/\fG w0 d D:=by
 obtain ⟨hl,hc,hm⟩:=ag h;have hmm:=@run_makeMap Tryz.prog;go_enter Tryz.func108,Tryz.ntmps108
 go_wp2
 clear hmm;go_loopw [9] (fun i wr=>∃j:Nat,j<=n/\i=.int .i64 j/\Below w.heap.size w wr/\∃D,wr.ownsMap Tryz.prog 3 fy w.heap.size j D/\fG w0 (d.take j) D) (fun i _=>n-(intOf i).toNat)
 case atStart=>exact ⟨0,Nat.zero_le _,rfl,(Below.refl _ _).alloc (Nat.le_refl _) _,_,World.ownsMap_made _ _ _ _,fG.nil _⟩
 obtain ⟨j,hj,rfl,hb,D,ho,hL⟩:=hrel;by_cases hjn:j<n
 . rcases cW rfl h with h0'|⟨b,off,rfl,hbl,hcs⟩
   . omega
   have hdj:d[j]?=some (d[j]'(by omega)):=List.getElem?_eq_getElem (by omega);have hmem:d[j]'(by omega)∈d:=List.getElem_mem _;have htk:d.take (j+1)=d.take j++[d[j]'(by omega)]:=List.take_succ_eq_append_getElem (by omega);generalize d[j]'(by omega)=x at hdj hmem htk;have hx:=hd x hmem;obtain ⟨v0,v1,hv0,hv1,hrv⟩:=hcs j x hdj;obtain ⟨rfl,hrv'⟩:=eL hrv;obtain ⟨av,cv,rfl⟩:=aC hrv';have hbr:=hb0.trans (hb.mono hb0.size);have p0:=(hbr.cell (p:=⟨b,off+j*2,none⟩) hbl).trans hv0;have p1:=(hbr.cell (p:=⟨b,off+j*2+1,none⟩) hbl).trans hv1;clear hbr;obtain ⟨x0,x1⟩:=x;simp only at p0 p1 hrv' hx
   have HL:=aa (hL.step ho.isMap x0 x1 av x1.length cv hrv');have HK:=aa (htk);have HO:=aa (ho.alloc (.cells #[.int .i64 x0,.slice av x1.length cv] 119));have hkey:keyOf Tryz.prog 3 (.int .i64 x0)=some (.int .i64 x0):=keyOf_int_mk Tryz.underlying3 (WalkArith.wf_i64 (by omega));have HKEY:=aa hkey;have HB:=aa (hb.alloc hb.size (.cells #[.int .i64 x0,.slice av x1.length cv] 119));clear hcs hdj hv0 hv1 hrv hrv' hmem htk ho hL hkey;go_wp2_with (at_mapUpdate;refine wpList_mapUpdate_own _ rfl _ _ _ 136 rfl 3 119 lq Tryz.underlying136 fy w.heap.size j D rfl ?_ ?_ _ _ (.int .i64 x0) rfl rfl ?_ (.held (.agg #[.int .i64 x0,.slice av x1.length cv])) [] rfl ?_;exact HO.out;unfold maxLen;omega;exact HKEY.out;intro w1 hown1 hgrow1;have HO1:=aa hown1;have HG1:=aa hgrow1;clear hown1 hgrow1)
   have hB1:Below w.heap.size w w1:=HB.out.grown HG1.out HB.out.size (fun k hk=>by cases hk;exact Nat.le_refl _);clear HB HG1 HO hb;go_roundw
   case rel=>exact ⟨j+1,by omega,by go_num,hB1,_,HO1.out,by rw [HK.out];exact HL.out⟩
   case measure=>simp [intOf];omega
 have e:j=n:=by omega
 subst e;rw [List.take_of_length_le (by omega)] at hL;go_wp2
 go_ret
 exact ⟨rfl,hb,D,ho,hL⟩
theorem sM (w:World) (E:TypeId) (a:Option Addr) (n cap:Nat) (d:List (Int×List Int)) (h:(aW E).Rd w [.slice a n cap] d) (hn:n<=2097152) (hd:∀x∈d,0<=x.1/\x.1<=20):
 Calls Tryz.prog 108 #[.slice a n cap] w fun e w'=>e=.returned (.map (some w.heap.size))/\Below w.heap.size w w'/\∃D,w'.ownsMap Tryz.prog 3 fy w.heap.size n D/\fG w d D:=pP w w (Below.refl _ _) E a n cap d h hn hd
theorem tM {q:Int} (h0:0<=q) (h1:q<=2097152):keyOf Tryz.prog 3 (.int .i64 q)=some (.int .i64 q):=keyOf_int_mk Tryz.underlying3 (WalkArith.wf_i64 (by omega))
theorem qw (w:World):(zeroValue 119).run Tryz.prog w=.ok (.agg #[.int .i64 0,.slice none 0 0]) w:=by kernel_rfl
theorem uo {w:World} {ops:Array Oper} {rest:List Oper} {o:Oper} {a:Act} {Q:Exit->Act->World->Prop} (hg:o.guard=none) (m x:Operand) (hop:o.op=Op.lookup 136 m x true) (b n:Nat) (D:DataW Value) (w0:World) (d:List (Int×List Int)) (q:Int) (zs:List Int)
 (hm:a.eval m=.map (some b)) (hown:w.ownsMap Tryz.prog 3 fy b n D) (hx:a.eval x=.int .i64 q) (hkey:keyOf Tryz.prog 3 (.int .i64 q)=some (.int .i64 q)) (hL:fG w0 d D) (hs:cB d q=some zs)
 (hK:∀a' c',aD.Rd w0 [.slice a' zs.length c'] zs->wpList Tryz.prog ops Q rest (a.put o.dst (.tuple #[.agg #[.int .i64 q,.slice a' zs.length c'],.bool true])) w):wpList Tryz.prog ops Q (o :: rest) a w:=by
 obtain ⟨h1,a',n',c',h2,h3⟩:=(hL q).2 zs hs;obtain ⟨hl,_,_⟩:=ag h3;subst hl;refine wpList_lookup_own_ok w hg m x _ hop 3 119 lq Tryz.underlying136 fy (qw w) (.held (.agg #[.int .i64 0,.slice none 0 0])) [] rfl b n D hm hown _ _ hx hkey ?_
 intro v ps hv;rw [h2] at hv;have hv':v=.agg #[.int .i64 q,.slice a' zs.length c']:=by simp [fy] at hv;exact hv.1
 subst hv';rw [h1];exact hK a' c' h3
theorem ur {w:World} {ops:Array Oper} {rest:List Oper} {o:Oper} {a:Act} {Q:Exit->Act->World->Prop} (hg:o.guard=none) (m x:Operand) (hop:o.op=Op.lookup 136 m x true) (b n:Nat) (D:DataW Value) (w0:World) (d:List (Int×List Int)) (q:Int)
 (hm:a.eval m=.map (some b)) (hown:w.ownsMap Tryz.prog 3 fy b n D) (hx:a.eval x=.int .i64 q) (hkey:keyOf Tryz.prog 3 (.int .i64 q)=some (.int .i64 q)) (hL:fG w0 d D) (hs:cB d q=none)
 (hK:wpList Tryz.prog ops Q rest (a.put o.dst (.tuple #[.agg #[.int .i64 0,.slice none 0 0],.bool false])) w):wpList Tryz.prog ops Q (o :: rest) a w:=by
 have h1:=(hL q).1 hs;refine wpList_lookup_own_ok w hg m x _ hop 3 119 lq Tryz.underlying136 fy (qw w) (.held (.agg #[.int .i64 0,.slice none 0 0])) [] rfl b n D hm hown _ _ hx hkey ?_
 intro v ps hv;rw [Maps.atKey_of_not_has h1] at hv;have hv':v=.agg #[.int .i64 0,.slice none 0 0]:=by simp [fy] at hv;exact hv.1
 subst hv';rw [h1];exact hK
end Go.Proofs.YtgjomldcnjjpaaaGreat

namespace Go.Proofs.YtgjomldcnjjpaaaGreat
open Go.RowKit

theorem jI {ss:List (List Int)} {cs:List (Int×List Int)} {bs:List Int} (h:bF ss cs bs=true):∀x∈cs,0<=x.1/\x.1<=20:=by
 unfold bF at h;simp only [Bool.and_eq_true,List.all_eq_true] at h
 obtain ⟨_,h2,_,h4,_⟩:=h;intro x hx;have h5:=h2 x hx;unfold wrB inB at h5;unfold inB at h4;simp at h4 h5
 omega
theorem iZ {ss:List (List Int)} {cs:List (Int×List Int)} {bs:List Int} (h:bF ss cs bs=true):ss.length<=20:=by
 unfold bF at h;simp only [Bool.and_eq_true] at h
 obtain ⟨_,_,_,h4,_⟩:=h;unfold inB at h4;simp at h4
 omega
theorem pQ (q:Int) (zs:List Int):∀(l:List (Int×List Int)) (acc:Option (List Int)),l.foldl (fun acc x=>if x.1=q then some x.2 else acc) acc=some zs->acc=some zs∨(q,zs)∈l
 | [],acc,h=>.inl h
 | x :: l,acc,h=>by
  rw [List.foldl_cons] at h;rcases pQ q zs l _ h with h1|h1
  . by_cases hx:x.1=q
    . rw [if_pos hx] at h1
      simp at h1
      right
      rw [←hx,←h1];exact List.mem_cons_self
    rw [if_neg hx] at h1;exact .inl h1
  exact .inr (List.mem_cons_of_mem _ h1)
theorem lr {l:List (Int×List Int)} {q:Int} {zs:List Int} (h:cB l q=some zs):(q,zs)∈l:=by
 rcases pQ q zs l none h with h1|h1
 . simp at h1
 exact h1
theorem nn {l:List (Int×List Int)} {q:Int} {zs:List Int} {N:Nat} (hw:aX l<=N) (h:cB l q=some zs):zs.length<=N:=by
 obtain ⟨j,hj⟩:=List.mem_iff_getElem?.1 (lr h);exact Nat.le_trans (cK hj) hw
theorem oW {ss:List (List Int)} {cs:List (Int×List Int)} {bs:List Int} (h:bF ss cs bs=true):∀x∈cs,∃q:Nat,x.1=(q:Int)/\q<ss.length:=by
 unfold bF at h;simp only [Bool.and_eq_true,List.all_eq_true] at h
 obtain ⟨_,h2,_⟩:=h;intro x hx;have h5:=h2 x hx;unfold wrB inB at h5;simp at h5
 exact ⟨x.1.toNat,by omega,by omega⟩
theorem vr {ss:List (List Int)} {cs:List (Int×List Int)} {bs:List Int} (h:bF ss cs bs=true):0<ss.length:=by
 unfold bF at h;simp only [Bool.and_eq_true] at h
 obtain ⟨_,_,_,h4,_⟩:=h;unfold inB at h4;simp at h4
 omega
theorem io {ss:List (List Int)} {cs:List (Int×List Int)} {bs:List Int} (h:bF ss cs bs=true):(∀x∈ss,x.length<=12)/\∀x∈cs,x.2.length<=12:=by
 unfold bF at h;simp only [Bool.and_eq_true,List.all_eq_true] at h
 obtain ⟨h1,h2,_⟩:=h;refine ⟨fun x hx=>?_,fun x hx=>?_⟩
 . have:=h1 x hx
   unfold cR at this;simp at this
   omega
 have:=h2 x hx;unfold wrB cR at this;simp at this
 omega
def dJ (ss:List (List Int)) (ks:List (Int×List Int)):List (List Int):=(List.range ss.length).map fun (k:Nat)=>(cB ks (k:Int)).getD (ss.getD k [])
def gF (ss:List (List Int)) (ks:List (Int×List Int)) (j:Nat):List (List Int):=(List.range ss.length).map fun (k:Nat)=>if k<j then (cB ks (k:Int)).getD (ss.getD k []) else ss.getD k []
theorem cD (ss:List (List Int)) (ks:List (Int×List Int)):(dJ ss ks).length=ss.length:=by unfold dJ;simp
theorem dK (ss:List (List Int)) (ks:List (Int×List Int)) (j:Nat):(gF ss ks j).length=ss.length:=by unfold gF;simp
theorem gG {ss:List (List Int)} {ks:List (Int×List Int)} {k:Nat} (h:k<ss.length):(dJ ss ks)[k]?=some ((cB ks (k:Int)).getD (ss.getD k [])):=by
 unfold dJ;rw [List.getElem?_map,List.getElem?_range h];rfl
theorem gu {ss:List (List Int)} {ks:List (Int×List Int)} {j k:Nat} (h:k<ss.length):(gF ss ks j)[k]?=some (if k<j then (cB ks (k:Int)).getD (ss.getD k []) else ss.getD k []):=by
 unfold gF;rw [List.getElem?_map,List.getElem?_range h];rfl
theorem dF {α:Type} {l m:List α} {n:Nat} (hl:l.length=n) (hm:m.length=n) (h:∀k,k<n->l[k]?=m[k]?):l=m:=by
 apply List.ext_getElem?
 intro k;by_cases hk:k<n
 . exact h k hk
 rw [List.getElem?_eq_none (by omega),List.getElem?_eq_none (by omega)]
theorem lu {ss:List (List Int)} {k:Nat} (h:k<ss.length):ss[k]?=some (ss.getD k []):=by
 rw [List.getD_eq_getElem?_getD,List.getElem?_eq_getElem h];rfl
theorem sN (ss:List (List Int)):dJ ss []=ss:=by
 refine dF (cD _ _) rfl (fun k hk=>?_)
 rw [gG hk,lu hk];rfl
theorem sO (ss:List (List Int)) (ks:List (Int×List Int)):gF ss ks 0=ss:=by
 refine dF (dK _ _ _) rfl (fun k hk=>?_)
 rw [gu hk,lu hk,if_neg (by omega)]
theorem pR {ss:List (List Int)} {ks:List (Int×List Int)} {j:Nat} (h:∀k:Nat,j<=k->k<ss.length->cB ks (k:Int)=none):gF ss ks j=dJ ss ks:=by
 refine dF (dK _ _ _) (cD _ _) (fun k hk=>?_)
 rw [gu hk,gG hk];by_cases hj:k<j
 . rw [if_pos hj]
 rw [if_neg hj,h k (by omega) hk];rfl
theorem sP {ss:List (List Int)} {ks:List (Int×List Int)} {j:Nat} {zs:List Int} (hj:j<ss.length) (h:cB ks (j:Int)=some zs):gF ss ks (j+1)=(gF ss ks j).set j zs:=by
 refine dF (dK _ _ _) (by rw [List.length_set];exact dK _ _ _) (fun k hk=>?_)
 rw [gu hk];by_cases hkj:k=j
 . subst hkj
   rw [if_pos (by omega),h,List.getElem?_set_self (by rw [dK];exact hk)];rfl
 rw [List.getElem?_set_ne (fun e=>hkj e.symm),gu hk];by_cases hl:k<j
 . rw [if_pos hl,if_pos (by omega)]
 rw [if_neg hl,if_neg (by omega)]
theorem sQ {ss:List (List Int)} {ks:List (Int×List Int)} {j:Nat} (h:cB ks (j:Int)=none):gF ss ks (j+1)=gF ss ks j:=by
 refine dF (dK _ _ _) (dK _ _ _) (fun k hk=>?_)
 rw [gu hk,gu hk];by_cases hkj:k=j
 . subst hkj
   rw [if_pos (by omega),if_neg (by omega),h];rfl
 by_cases hl:k<j
 . rw [if_pos hl,if_pos (by omega)]
 rw [if_neg hl,if_neg (by omega)]
theorem ro {ss:List (List Int)} {ks:List (Int×List Int)} {q:Nat} {zs:List Int} (hq:q<ss.length):dJ ss (ks++[((q:Int),zs)])=(dJ ss ks).set q zs:=by
 refine dF (cD _ _) (by rw [List.length_set];exact cD _ _) (fun k hk=>?_)
 rw [gG hk,iK];by_cases hkq:k=q
 . subst hkq
   rw [if_pos rfl,List.getElem?_set_self (by rw [cD];exact hk)];rfl
 rw [if_neg (by simp;omega),List.getElem?_set_ne (fun e=>hkq e.symm),gG hk]
theorem dY:∀(l:List Nat) (m:Nat),(∀x∈l,x<=m)->du l<=m*l.length
 | [],m,_=>by simp [du]
 | x :: l,m,h=>by
  have h1:=dY l m (fun y hy=>h y (List.mem_cons_of_mem _ hy));have h2:=h x List.mem_cons_self;have h3:du (x :: l)=x+du l:=by simp [du]
  rw [h3,List.length_cons,Nat.mul_succ];omega
abbrev bI (E F:TypeId):Ty:=ce (cu E) F
abbrev ai:Type:=List (List Int)×List (Int×List Int)×Bool×List Int
def aQ (d:List ai):Nat:=d.length+du (d.map aM)
theorem ei {d:List ai} {j:Nat} {x:ai} (h:d[j]?=some x):aM x<=aQ d:=by
 have h1:=lk (l:=d.map aM) (j:=j) (x:=aM x) (by rw [List.getElem?_map,h];rfl);have h2:=qr (l:=d.map aM) (j+1);unfold aQ;omega
theorem fV {E:TypeId} {w:World} {v0 v1 v2 v3:Value} {x:ai} (h:(cu E).Rd w [v0,v1,v2,v3] x):
 ∃a0 c0 a1 c1 a3 c3 ss cs f bs,x=(ss,cs,f,bs)/\v0=.slice a0 ss.length c0/\v1=.slice a1 cs.length c1/\v2=.bool f/\v3=.slice a3 bs.length c3/\aU.Rd w [.slice a0 ss.length c0] ss/\(aW E).Rd w [.slice a1 cs.length c1] cs/\aD.Rd w [.slice a3 bs.length c3] bs:=by
 obtain ⟨ss,cs,f,bs⟩:=x;obtain ⟨a0,c0,a1,c1,a3,c3,rfl,rfl,rfl,rfl,h0,h1,h3⟩:=qv h;exact ⟨a0,c0,a1,c1,a3,c3,ss,cs,f,bs,rfl,rfl,rfl,rfl,rfl,h0,h1,h3⟩
theorem Tryz.infoMem:(Tryz.prog.info? 55).map (fun i=>(i.zero,i.size,i.bytes))=some (some (.agg #[.slice none 0 0,.slice none 0 0,.bool false,.slice none 0 0]),4,80):=by kernel_rfl
structure aq where
 id:Int
 n:Int
 s:Int
 lost:Int
 xW:Int
 seq:Int
 tail:Int
 gen:Int
 xY:Int
 down:Bool
 xX:Bool
def bh (ms:List ai) (ds:List (Int×List Int)):Nat:=aQ ms+aX ds
theorem Box.cells13 {w:World} {B:Nat} {T:TypeId} {v0 v1 v2 v3 v4 v5 v6 v7 v8 v9 v10 v11 v12:Value} (h:Box w B T #[v0,v1,v2,v3,v4,v5,v6,v7,v8,v9,v10,v11,v12]):w.cell? ⟨B,0,none⟩=some v0/\w.cell? ⟨B,1,none⟩=some v1/\w.cell? ⟨B,2,none⟩=some v2/\w.cell? ⟨B,3,none⟩=some v3/\w.cell? ⟨B,4,none⟩=some v4/\w.cell? ⟨B,5,none⟩=some v5/\w.cell? ⟨B,6,none⟩=some v6/\w.cell? ⟨B,7,none⟩=some v7/\w.cell? ⟨B,8,none⟩=some v8/\w.cell? ⟨B,9,none⟩=some v9/\w.cell? ⟨B,10,none⟩=some v10/\w.cell? ⟨B,11,none⟩=some v11/\w.cell? ⟨B,12,none⟩=some v12:=⟨h.cell 0,h.cell 1,h.cell 2,h.cell 3,h.cell 4,h.cell 5,h.cell 6,h.cell 7,h.cell 8,h.cell 9,h.cell 10,h.cell 11,h.cell 12⟩
def fa (w:World) (B:Nat):List (Nat×Value)->World
 | []=>w
 | x :: r=>fa (w.setCell ⟨B,x.1,none⟩ x.2) B r
theorem dj (B:Nat):∀(l:List (Nat×Value)) (w:World),But B (B+1) w (fa w B l)
 | [],_=>But.refl _ _ _
 | _ :: r,_=>(But.setCell (Nat.le_refl _) (Nat.lt_succ_self _) _).trans (dj B r _)
def aV (ss:List (List Int)) (cs:List (Int×List Int)) (f:Bool) (bs:List Int) (n:Int):Bool:=bF ss cs bs&&(!f&&(inB n 0 ((ss.length:Int)-1)&&!inL bs n))
def iw (ss:List (List Int)) (n:Int):List Int:=ss.getD n.toNat []
def bp (ss:List (List Int)) (cs:List (Int×List Int)) (f:Bool) (bs:List Int) (n:Int):List Int:=if aV ss cs f bs n=true then (cB cs n).getD (iw ss n) else []
theorem mN (w:World) (E:TypeId) (a0 a1 a3:Option Addr) (n0 c0 n1 c1 n3 c3:Nat) (ss:List (List Int)) (cs:List (Int×List Int)) (f:Bool) (bs:List Int) (n:Int) (h0:aU.Rd w [.slice a0 n0 c0] ss) (h1:(aW E).Rd w [.slice a1 n1 c1] cs) (h3:aD.Rd w [.slice a3 n3 c3] bs) (hw:aM (ss,cs,f,bs)<=2097152):
 Calls Tryz.prog 159 #[.agg #[.slice a0 n0 c0,.slice a1 n1 c1,.bool f,.slice a3 n3 c3],.int .i64 n] w fun e w'=>∃a' l c',e=.returned (.tuple #[.slice a' l c',.bool (aV ss cs f bs n)])/\aD.Own w' w.heap.size w'.heap.size [.slice a' l c'] (bp ss cs f bs n)/\Below w.heap.size w w':=by
 obtain ⟨hl0,_,hm0⟩:=ag h0;obtain ⟨hl1,_,hm1⟩:=ag h1;obtain ⟨hl3,_,hm3⟩:=ag h3;have hw3:n3<=2097152:=by unfold aM at hw;simp only at hw;omega
 have hw0:cA ss<=2097152:=by unfold aM at hw;simp only at hw;omega
 have hw1:aX cs<=2097152:=by unfold aM at hw;simp only at hw;omega
 have hn0:n0<=2097152:=by unfold cA at hw0;omega
 have hn1:n1<=2097152:=by unfold aX at hw1;omega
 have hA:Below w.heap.size w (w.alloc (.cells #[.slice a0 n0 c0,.slice a1 n1 c1,.bool f,.slice a3 n3 c3] 55)):=(Below.refl _ _).alloc (Nat.le_refl _) _;have xm:=Box.new w 55 #[.slice a0 n0 c0,.slice a1 n1 c1,.bool f,.slice a3 n3 c3];have g0:=h0.below hA;have g1:=h1.below hA;have g3:=h3.below hA;obtain ⟨q0,q1,q2,q3⟩:=xm.cells4;have zm:=xm.lt;have fin:∀w1,Below w.heap.size w w1->aD.Own (w1.alloc (.cells #[] 3)) w.heap.size (w1.alloc (.cells #[] 3)).heap.size [.slice (some ⟨w1.heap.size,0,none⟩) 0 0] []/\Below w.heap.size w (w1.alloc (.cells #[] 3)):=by
  intro w1 hb;have hs:=hb.size;exact ⟨(aS (bk.lit .i64 3 w1 [] 0 #[] rfl rfl (by unfold maxLen;omega))).widen hs (Nat.le_refl _),hb.alloc hb.size _⟩
 by_cases hM:bF ss cs bs=true
 . by_cases hf:f=true
   . subst hf
     have hro:aV ss cs true bs n=false:=by unfold aV;rw [hM];rfl
     have hrd:bp ss cs true bs n=[]:=by unfold bp;rw [hro];rfl
     rw [hro,hrd];clear hro hrd;go_enter Tryz.func159,Tryz.ntmps159
     go_wp2_with fail
     generalize hW:w.alloc (.cells #[.slice a0 n0 c0,.slice a1 n1 c1,.bool true,.slice a3 n3 c3] 55)=W at hA g0 g1 g3 q0 q1 q2 q3 zm ⊢;clear hW xm;refine (bw _ E _ _ _ _ _ _ _ _ _ ss cs true bs g0 g1 g3 hw).mono ?_
     rintro e w1 ⟨rfl,b1⟩;have r0:=(b1.cell (p:=⟨w.heap.size,0,none⟩) zm).trans q0;have r1:=(b1.cell (p:=⟨w.heap.size,1,none⟩) zm).trans q1;have r2:=(b1.cell (p:=⟨w.heap.size,2,none⟩) zm).trans q2;have r3:=(b1.cell (p:=⟨w.heap.size,3,none⟩) zm).trans q3;have B1:=Below.andThen hA b1;have z1:=Nat.lt_of_lt_of_le zm b1.size;clear q0 q1 q2 q3;go_wp2
     go_ret2
     exact ⟨_,_,_,rfl,(fin _ B1).1,(fin _ B1).2⟩
   have hf:f=false:=by simpa using hf
   subst hf;by_cases hI:inB n 0 ((n0:Int)-1)=true
   . by_cases hB:inL bs n=true
     . have hro:aV ss cs false bs n=false:=by unfold aV;rw [hM,hl0,hI,hB];rfl
       have hrd:bp ss cs false bs n=[]:=by unfold bp;rw [hro];rfl
       rw [hro,hrd];clear hro hrd;go_enter Tryz.func159,Tryz.ntmps159
       go_wp2_with fail
       generalize hW:w.alloc (.cells #[.slice a0 n0 c0,.slice a1 n1 c1,.bool false,.slice a3 n3 c3] 55)=W at hA g0 g1 g3 q0 q1 q2 q3 zm ⊢;clear hW xm;refine (bw _ E _ _ _ _ _ _ _ _ _ ss cs false bs g0 g1 g3 hw).mono ?_
       rintro e w1 ⟨rfl,b1⟩;have r0:=(b1.cell (p:=⟨w.heap.size,0,none⟩) zm).trans q0;have r1:=(b1.cell (p:=⟨w.heap.size,1,none⟩) zm).trans q1;have r2:=(b1.cell (p:=⟨w.heap.size,2,none⟩) zm).trans q2;have r3:=(b1.cell (p:=⟨w.heap.size,3,none⟩) zm).trans q3;have B1:=Below.andThen hA b1;have z1:=Nat.lt_of_lt_of_le zm b1.size;clear q0 q1 q2 q3;have gw:IntKind.i64.wrap ((n0:Int)-1)=(n0:Int)-1:=IntWalk.i64_in _ (by omega);go_wp2_with fail
       refine (aE _ _ _ _).mono ?_
       rintro e w2 ⟨rfl,hw2⟩;subst w2;have k3:=g3.below b1;go_wp2_with fail
       refine (lD _ _ _ _ bs _ hl3 (aR k3).1 hw3).mono ?_
       rintro e w3 ⟨rfl,s3⟩;have B3:=Below.andSame B1 s3;go_wp2
       go_ret2
       exact ⟨_,_,_,rfl,(fin _ B3).1,(fin _ B3).2⟩
     have hB:inL bs n=false:=by simpa using hB
     have hro:aV ss cs false bs n=true:=by unfold aV;rw [hM,hl0,hI,hB];rfl
     have hrd:bp ss cs false bs n=(cB cs n).getD (iw ss n):=by unfold bp;rw [hro];rfl
     rw [hro,hrd];clear hro hrd;have hI':0<=n/\n<=(n0:Int)-1:=by unfold inB at hI;simpa using hI
     obtain ⟨k,rfl⟩:∃k:Nat,n=(k:Int):=⟨n.toNat,by omega⟩;have hk:k<n0:=by omega
     go_enter Tryz.func159,Tryz.ntmps159
     go_wp2_with fail
     generalize hW:w.alloc (.cells #[.slice a0 n0 c0,.slice a1 n1 c1,.bool false,.slice a3 n3 c3] 55)=W at hA g0 g1 g3 q0 q1 q2 q3 zm ⊢;clear hW xm;refine (bw _ E _ _ _ _ _ _ _ _ _ ss cs false bs g0 g1 g3 hw).mono ?_
     rintro e w1 ⟨rfl,b1⟩;have r0:=(b1.cell (p:=⟨w.heap.size,0,none⟩) zm).trans q0;have r1:=(b1.cell (p:=⟨w.heap.size,1,none⟩) zm).trans q1;have r2:=(b1.cell (p:=⟨w.heap.size,2,none⟩) zm).trans q2;have r3:=(b1.cell (p:=⟨w.heap.size,3,none⟩) zm).trans q3;have B1:=Below.andThen hA b1;have z1:=Nat.lt_of_lt_of_le zm b1.size;clear q0 q1 q2 q3;have gw:IntKind.i64.wrap ((n0:Int)-1)=(n0:Int)-1:=IntWalk.i64_in _ (by omega);go_wp2_with fail
     refine (aE _ _ _ _).mono ?_
     rintro e w2 ⟨rfl,hw2⟩;subst w2;have k3:=g3.below b1;go_wp2_with fail
     refine (lD _ _ _ _ bs _ hl3 (aR k3).1 hw3).mono ?_
     rintro e w3 ⟨rfl,s3⟩;have B3:=Below.andSame B1 s3;have m0:=(s3.cell _).trans r0;have m1:=(s3.cell _).trans r1;have b3:=Below.andSame b1 s3;have y1:=g1.below b3;rcases hJ rfl g0 with h0'|⟨b,off,rfl,hbl,hcs⟩
     . omega
     have hdj:ss[k]?=some (ss[k]'(by omega)):=List.getElem?_eq_getElem (by omega);generalize ss[k]'(by omega)=x at hdj;have hil:=eZ hdj;obtain ⟨v,hv,hrv⟩:=hcs k x hdj;obtain ⟨av,cv,rfl⟩:=aC hrv;have mv:=(b3.cell (p:=⟨b,off+k,none⟩) hbl).trans hv;have hrx:=hrv.below b3;have hgx:iw ss (k:Int)=x:=by unfold iw;rw [Int.toNat_natCast,List.getD_eq_getElem?_getD,hdj];rfl
     have HGX:=aa hgx;have HY:=aa y1;have HX:=aa hrx;have HB3:=aa B3;have i1:(0:Int)<=(k:Int):=by omega
     have i2:(k:Int)<(n0:Int):=by omega
     clear hcs hdj hv hrv hgx y1 hrx B3 b3 r0 r1 r2 r3 g0 g1 g3 k3 B1 b1 s3 hA fin hB hI hI' hM;go_wp2
     go_loopw [6,7] (fun sv i wr=>∃(j:Nat) (aj:Option Addr) (lj cj:Nat),j<=n1/\i=.int .i64 j/\sv=.slice aj lj cj/\aD.Rd w3 [.slice aj lj cj] ((cB (cs.take j) (k:Int)).getD x)/\lj<=2097152/\aP w3 wr) (fun _ i _=>n1-(intOf i).toNat)
     case atStart=>exact ⟨0,av,x.length,cv,Nat.zero_le _,rfl,rfl,HX.out,by omega,aP.refl _⟩
     obtain ⟨j,aj,lj,cj,hj,rfl,rfl,hrj,hlj,hs⟩:=hrel;have p1:=(hs.cell _).trans m1;have HRJ:=aa hrj;by_cases hjn:j<n1
     . rcases cW rfl HY.out with h0'|⟨bb,ob,rfl,hbb,hcs⟩
       . omega
       have hdj:cs[j]?=some (cs[j]'(by omega)):=List.getElem?_eq_getElem (by omega);have htk:cs.take (j+1)=cs.take j++[cs[j]'(by omega)]:=List.take_succ_eq_append_getElem (by omega);generalize cs[j]'(by omega)=y at hdj htk;have hil2:=cK hdj;obtain ⟨v0,v1,hv0,hv1,hry⟩:=hcs j y hdj;obtain ⟨rfl,hry'⟩:=eL hry;obtain ⟨ay,cy,rfl⟩:=aC hry';have u0:=(hs.cell ⟨bb,ob+j*2,none⟩).trans hv0;have u1:=(hs.cell ⟨bb,ob+j*2+1,none⟩).trans hv1;obtain ⟨y0,y1⟩:=y;simp only at u0 u1 hry' hil2
       have hls:=iK (cs.take j) (y0,y1) (k:Int);rw [←htk] at hls;have HRY:=aa hry';by_cases hy:y0=(k:Int)
       . have HLS:Hid (cB (cs.take (j+1)) (k:Int)=some y1):=by unfold Hid;rw [hls];simp [hy]
         subst hy;clear hcs hdj hv0 hv1 hry hry' htk hls hrj;go_wp2
         go_roundw
         case rel=>exact ⟨j+1,ay,y1.length,cy,by omega,by go_num,rfl,by rw [HLS.out];exact HRY.out,by omega,hs⟩
         case measure=>simp [intOf];omega
       have HLS:Hid (cB (cs.take (j+1)) (k:Int)=cB (cs.take j) (k:Int)):=by unfold Hid;rw [hls];simp [hy]
       clear hcs hdj hv0 hv1 hry hry' htk hls hrj;go_wp2
       go_roundw
       case rel=>exact ⟨j+1,aj,lj,cj,by omega,by go_num,rfl,by rw [HLS.out];exact HRJ.out,hlj,hs⟩
       case measure=>simp [intOf];omega
     have e:j=n1:=by omega
     subst e;rw [List.take_of_length_le (by omega)] at hrj;have HF:=aa hrj;have HZ:Hid ((cB cs (k:Int)).getD (iw ss (k:Int))=(cB cs (k:Int)).getD x):=by unfold Hid;rw [HGX.out]
     generalize (cB cs (k:Int)).getD x=zs at hrj HF HZ;obtain ⟨i0,hi,hz0,hz1,hz2⟩:=info_parts Tryz.info3;have hBr:=Below.andSame HB3.out hs;have hsr:=hBr.size;have hO:bk .i64 3 (wr.alloc (.cells #[] 3)) wr.heap.size (.slice (some ⟨wr.heap.size,0,none⟩) 0 0) []:=bk.lit .i64 3 wr [] 0 #[] rfl rfl (by unfold maxLen;omega);have hA2:Below wr.heap.size wr (wr.alloc (.cells #[] 3)):=(Below.refl _ _).alloc (Nat.le_refl _) _;obtain ⟨hr,hlz,_,_⟩:=aR ((hrj.same hs).below hA2);have HO:=aa hO;have HR:=aa hr;have HA2:=aa (Below.andThen hBr hA2);clear hO hr hA2 hBr HRJ;match aj,hrj,HR,HF with
     | none,hrj,_,_=>
      obtain ⟨rfl,rfl,rfl⟩:=mX hrj;clear hrj;go_wp2_with (at_builtin;refine wpList_append_own_none rfl _ _ 42 rfl wr.heap.size 3 i0 1 Tryz.underlying42 hi _ 0 [] rfl ?_ rfl ?_;exact HO.out)
      go_ret2
      exact ⟨_,_,_,rfl,by rw [HZ.out];exact (aS HO.out).widen hsr (Nat.le_refl _),HA2.out⟩
     | some ad,hrj,HR,_=>
      clear hrj;go_wp2_with (at_builtin;refine dt .i64 rfl _ _ 42 rfl wr.heap.size 3 i0 (.int .i64 0) 8 Tryz.underlying42 hi hz0 hz1 hz2 rfl _ [] rfl ?_ ad lj cj zs rfl hlz ?_ (by unfold maxLen;simp;omega) (by simp;omega) (by simp) ?_;exact HO.out;exact HR.out;intro v' w9 ho9 hb9;obtain ⟨a9,c9,hv9,_⟩:=ho9.shape;rw [List.nil_append,hlz] at hv9;rw [List.nil_append] at ho9;subst hv9)
      go_ret2
      exact ⟨_,_,_,rfl,by rw [HZ.out];exact (aS ho9).widen hsr (Nat.le_refl _),HA2.out.trans (hb9.mono hsr)⟩
   have hI:inB n 0 ((n0:Int)-1)=false:=by simpa using hI
   have hro:aV ss cs false bs n=false:=by unfold aV;rw [hM,hl0,hI];rfl
   have hrd:bp ss cs false bs n=[]:=by unfold bp;rw [hro];rfl
   rw [hro,hrd];clear hro hrd;go_enter Tryz.func159,Tryz.ntmps159
   go_wp2_with fail
   generalize hW:w.alloc (.cells #[.slice a0 n0 c0,.slice a1 n1 c1,.bool false,.slice a3 n3 c3] 55)=W at hA g0 g1 g3 q0 q1 q2 q3 zm ⊢;clear hW xm;refine (bw _ E _ _ _ _ _ _ _ _ _ ss cs false bs g0 g1 g3 hw).mono ?_
   rintro e w1 ⟨rfl,b1⟩;have r0:=(b1.cell (p:=⟨w.heap.size,0,none⟩) zm).trans q0;have r1:=(b1.cell (p:=⟨w.heap.size,1,none⟩) zm).trans q1;have r2:=(b1.cell (p:=⟨w.heap.size,2,none⟩) zm).trans q2;have r3:=(b1.cell (p:=⟨w.heap.size,3,none⟩) zm).trans q3;have B1:=Below.andThen hA b1;have z1:=Nat.lt_of_lt_of_le zm b1.size;clear q0 q1 q2 q3;have gw:IntKind.i64.wrap ((n0:Int)-1)=(n0:Int)-1:=IntWalk.i64_in _ (by omega);go_wp2_with fail
   refine (aE _ _ _ _).mono ?_
   rintro e w2 ⟨rfl,hw2⟩;subst w2;go_wp2
   go_ret2
   exact ⟨_,_,_,rfl,(fin _ B1).1,(fin _ B1).2⟩
 have hM:bF ss cs bs=false:=by simpa using hM
 have hro:aV ss cs f bs n=false:=by unfold aV;rw [hM];rfl
 have hrd:bp ss cs f bs n=[]:=by unfold bp;rw [hro];rfl
 rw [hro,hrd];clear hro hrd;go_enter Tryz.func159,Tryz.ntmps159
 go_wp2_with fail
 generalize hW:w.alloc (.cells #[.slice a0 n0 c0,.slice a1 n1 c1,.bool f,.slice a3 n3 c3] 55)=W at hA g0 g1 g3 q0 q1 q2 q3 zm ⊢;clear hW xm;refine (bw _ E _ _ _ _ _ _ _ _ _ ss cs f bs g0 g1 g3 hw).mono ?_
 rintro e w1 ⟨rfl,b1⟩;have r0:=(b1.cell (p:=⟨w.heap.size,0,none⟩) zm).trans q0;have r1:=(b1.cell (p:=⟨w.heap.size,1,none⟩) zm).trans q1;have r2:=(b1.cell (p:=⟨w.heap.size,2,none⟩) zm).trans q2;have r3:=(b1.cell (p:=⟨w.heap.size,3,none⟩) zm).trans q3;have B1:=Below.andThen hA b1;have z1:=Nat.lt_of_lt_of_le zm b1.size;clear q0 q1 q2 q3;go_wp2
 go_ret2
 exact ⟨_,_,_,rfl,(fin _ B1).1,(fin _ B1).2⟩
theorem wS {w:World} {B:Nat} {T:TypeId} {z0 z1 z2 z3 z4 z5 z6 z7 z8 z9 z10 z11 z12:Value} (h:Box w B T #[z0,z1,z2,z3,z4,z5,z6,z7,z8,z9,z10,z11,z12]) (c0 c1 c2 c3 c4 c5 c6 c7 c8 c9 c10 c11 c12:Value):Box (fa w B [(0,c0),(1,c1),(2,c2),(3,c3),(4,c4),(5,c5),(6,c6),(7,c7),(8,c8),(9,c9),(10,c10),(11,c11),(12,c12)]) B T #[c0,c1,c2,c3,c4,c5,c6,c7,c8,c9,c10,c11,c12]:=by
 simp only [fa]
 have:=(((((((((((((h.set 0 c0).set 1 c1).set 2 c2).set 3 c3).set 4 c4).set 5 c5).set 6 c6).set 7 c7).set 8 c8).set 9 c9).set 10 c10).set 11 c11).set 12 c12);simpa using this
theorem aA.belowN {N:Nat} {fp:List Nat} {w w':World} (h:aA fp w w') (hN:N<=w.heap.size) (hf:∀b∈fp,N<=b):Below N w w':=
 ⟨h.os,h.tape,h.output,h.size,fun k hk=>h.block k (by omega) (fun hm=>by have:=hf k hm;omega)⟩
end Go.Proofs.YtgjomldcnjjpaaaGreat
