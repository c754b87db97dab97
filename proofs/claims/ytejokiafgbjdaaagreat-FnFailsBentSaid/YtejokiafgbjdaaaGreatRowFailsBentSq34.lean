/-
 The walks of the program's superOp and of the operation that it makes. No condition but that every disk is right.
-/
import Derived.Test.YtejokiafgbjdaaaGreatRowFailsBentSq29
import Derived.Test.YtejokiafgbjdaaaGreatRowFailsBentSq2
import Derived.Recover
import Derived.Test.YtejokiafgbjdaaaGreatRowFailsBentSq3

set_option maxRecDepth 100000
set_option maxHeartbeats 8000000
set_option linter.unusedSimpArgs false

namespace Go.Proofs.YtejokiafgbjdaaaGreat
open Go.RowKit

abbrev DOp:=Nat×Option (Option (Int×List Int))
def mP (d:ai) (u:Sup):ai:=(d.1,ph d.1 d.2.1 d.2.2.1 d.2.2.2 u,d.2.2.1,pi d.1 d.2.1 d.2.2.1 d.2.2.2 u)
def opF (o:DOp) (x:al):ai->ai:=
 match o.2 with
 | none=>flM
 | some none=>fun d=>mP d (gk x o.1)
 | some (some p)=>fun d=>wrM d p.1 p.2
def dC (q:al×List ai) (ops:List DOp):al×List ai:=ops.foldl (fun q o=>doS q o.1 (opF o q.1)) q
theorem sZ {x:al} (h:x.down=true):opX x=x:=by unfold opX;rw [if_pos h]
theorem ta {x:al} (h:x.down=true):opB x=false:=by unfold opB;simp [h]
theorem opX_no {x:al} (h:opB x=false):(opX x).down=true:=by
 unfold opB at h;unfold opX;by_cases hd:x.down=true
 . rw [if_pos hd];exact hd
 rw [if_neg hd];simp at h
 rw [if_pos (h (by simpa using hd))]
theorem uh {x:al} (h:opB x=true):(opX x).down=false:=by
 unfold opB at h;simp at h
 unfold opX;rw [if_neg (by simp [h.1]),if_neg h.2];split
 . exact h.1
 exact h.1
theorem pj {q:al×List ai} (i:Nat) (f:ai->ai) (h:q.1.down=true):doS q i f=q:=by
 unfold doS;rw [ta h,sZ h];split
 . rfl
 rfl
theorem np {q:al×List ai} (h:q.1.down=true):∀ops:List DOp,dC q ops=q
 | []=>rfl
 | o :: ops=>by
  unfold dC;rw [List.foldl_cons,pj _ _ h];exact np h ops
theorem lH (q:al×List ai) (a b:List DOp):dC q (a++b)=dC (dC q a) b:=by unfold dC;rw [List.foldl_append]
theorem tb (q:al×List ai) (o:DOp):dC q [o]=doS q o.1 (opF o q.1):=rfl
theorem rU {q:al×List ai} {ops:List DOp} {j:Nat} {o:DOp} (h:ops[j]?=some o):dC q (ops.take (j+1))=doS (dC q (ops.take j)) o.1 (opF o (dC q (ops.take j)).1):=by
 rw [List.take_add_one,h,lH];rfl
theorem tc {q:al×List ai} {ops:List DOp} {j:Nat} (h:(dC q (ops.take j)).1.down=true):dC q ops=dC q (ops.take j):=by
 have:=lH q (ops.take j) (ops.drop j);rw [List.take_append_drop,np h] at this;exact this
theorem ui (u:Sup) (d:ai) (h:aW d.1 d.2.1 d.2.2.2=true):aW (mP d u).1 (mP d u).2.1 (mP d u).2.2.2=true:=by
 unfold mP ph pi;dsimp only
 by_cases hu:er u=true
 . rw [if_pos hu,if_pos hu]
   exact oq (u.gen % 2) (dH u) d h
 rw [if_neg hu,if_neg hu];exact h
theorem td {u:Sup} (h:er u=true) (d:ai):mP d u=wrM d (u.gen % 2) (dH u):=by
 unfold mP ph pi wrM;rw [if_pos h,if_pos h]
theorem opF_ok (o:DOp) (x:al) (d:ai) (h:aW d.1 d.2.1 d.2.2.2=true):aW (opF o x d).1 (opF o x d).2.1 (opF o x d).2.2.2=true:=by
 obtain ⟨i,k⟩:=o;rcases k with _|_|⟨n,s⟩
 . exact qk d h
 . exact ui _ d h
 exact oq n s d h
theorem te (o:DOp) (x:al) (d:ai):(opF o x d).2.2.1=d.2.2.1:=by
 obtain ⟨i,k⟩:=o;rcases k with _|_|⟨n,s⟩<;>rfl
theorem ql {q:al×List ai} (h:bJ q.2) (hf:q.1.uI<=1000):∀ops:List DOp,bJ (dC q ops).2/\dg q.1 (dC q ops).1/\(dC q ops).2.length=q.2.length:=by
 intro ops;induction ops generalizing q with
 | nil=>exact ⟨h,dg.refl hf,rfl⟩
 | cons o ops ih=>
  have h1:=fK (q:=q) o.1 (opF o q.1) hf;obtain ⟨a,b,c⟩:=ih (q:=doS q o.1 (opF o q.1)) (oh h (opF_ok o q.1)) h1.2.2.2.2.2.2.2.2.2.1;exact ⟨a,h1.trans b,c.trans (iO _ _ _)⟩
theorem uj (o:DOp) (x:al):opF o (opX x)=opF o x:=by
 obtain ⟨i,k⟩:=o;rcases k with _|_|⟨n,s⟩
 . rfl
 . have e:gk (opX x) i=gk x i:=by
    unfold opX;split
    . rfl
    split
    . rfl
    split<;>rfl
   show (fun d=>mP d (gk (opX x) i))=fun d=>mP d (gk x i)
   rw [e]
 rfl
def dm (ms:List ai) (k:Nat):Bool:=(ms.getD k ew).2.2.1
theorem tf {ms:List ai} {i:Nat} {d:ai} (h:d.2.2.1=dm ms i) (k:Nat):dm (ms.set i d) k=dm ms k:=by
 unfold dm;by_cases hk:k=i
 . subst hk
   by_cases hl:k<ms.length
   . rw [List.getD_eq_getElem?_getD,List.getElem?_set_self hl]
     exact h
   rw [List.set_eq_of_length_le (by omega)]
 rw [List.getD_eq_getElem?_getD,List.getD_eq_getElem?_getD,List.getElem?_set_ne (fun e=>hk e.symm)]
theorem tg (q:al×List ai) (i:Nat) {f:ai->ai} (hf:∀d,(f d).2.2.1=d.2.2.1) (k:Nat):dm (doS q i f).2 k=dm q.2 k:=by
 unfold doS;split
 . rfl
 split
 . exact tf (hf _) k
 rfl
theorem nt (q:al×List ai) (ops:List DOp) (k:Nat):dm (dC q ops).2 k=dm q.2 k:=by
 induction ops generalizing q with
 | nil=>rfl
 | cons o ops ih=>exact (ih (doS q o.1 (opF o q.1))).trans (tg q o.1 (te o q.1) k)
def dL (K:Nat->DOp) (ms:List ai) (j:Nat):List DOp:=((List.range j).filter fun i=>!dm ms i).map K
theorem nu (K:Nat->DOp) (ms:List ai) (j:Nat):dL K ms (j+1)=dL K ms j++(if dm ms j=true then [] else [K j]):=by
 unfold dL;rw [List.range_succ,List.filter_append,List.map_append];cases h:dm ms j<;>simp [h]
theorem ti (K:Nat->DOp) (ms:List ai) (j:Nat):(dL K ms j).length<=j:=by
 unfold dL;rw [List.length_map];exact Nat.le_trans (List.length_filter_le _ _) (by rw [List.length_range];exact Nat.le_refl _)
theorem pk {K:Nat->DOp} {ms:List ai} {j:Nat} {o:DOp} (h:o∈dL K ms j):∃i,i<j/\dm ms i=false/\o=K i:=by
 unfold dL at h;obtain ⟨i,hi,rfl⟩:=List.mem_map.1 h;obtain ⟨h1,h2⟩:=List.mem_filter.1 hi;exact ⟨i,List.mem_range.1 h1,by simpa using h2,rfl⟩
theorem lI {K:Nat->DOp} (hK:∀i,(K i).1=i) (q:al×List ai):∀j,dC q (dL K q.2 j)=(List.range j).foldl (fun q i=>doS q i (opF (K i) q.1)) q
 | 0=>rfl
 | j+1=>by
  rw [nu,lH,List.range_succ,List.foldl_append,←lI hK q j];cases h:dm q.2 j
  . rw [if_neg (by simp),tb,hK]
    rfl
  rw [if_pos rfl];have h2:dm (dC q (dL K q.2 j)).2 j=true:=by rw [nt];exact h
  show dC q (dL K q.2 j)=doS (dC q (dL K q.2 j)) j _
  unfold dm at h2;unfold doS;rw [if_pos h2]
def eK (i:Nat):DOp:=(i,none)
def jM (i:Nat):DOp:=(i,some none)
theorem tj (q:al×List ai) (j:Nat):dC q (dL eK q.2 j)=bw q j:=lI (fun _=>rfl) q j
theorem pn {q:al×List ai} (h:bJ q.2) (hf:q.1.uI<=1000) (hu:∀i:Nat,i<q.2.length->er (gk q.1 i)=true):∀j,j<=q.2.length->dC q (dL jM q.2 j)=cX q j
 | 0,_=>rfl
 | j+1,hj=>by
  have ih:=pn h hf hu j (by omega);have hs:=(ei h hf j).2.1;rw [lI (fun _=>rfl)] at ih ⊢;rw [List.range_succ,List.foldl_append,ih,hY];have e:gk (cX q j).1 j=gk q.1 j:=by
   obtain ⟨a1,a2,a3,a4,a5,a6,a7,a8,a9,_⟩:=hs;unfold gk;rw [a1,a2,a3,a4,a5,a7,a8]
  have hu2:er (gk (cX q j).1 j)=true:=by rw [e];exact hu j (by omega)
  show doS (cX q j) j (fun d=>mP d (gk (cX q j).1 j))=eZ _ _ _ _
  unfold eZ;congr 1
  funext d
  exact td hu2 d
def mG (F:FuncId) (args:Array Value):Prop:=∀w:World,Sem.run Tryz.prog (callFunc F args) w=.ok (.enter F args) w
theorem gV {F : FuncId} {fn : Func} (hf : Tryz.prog.funcs[F]? = some fn) (hn : (fn.name == "runtime.NumGoroutine") = false) (hb : fn.body.isNone = false) (args : Array Value) : mG F args := by
 intro w;have hb':¬fn.body=none:=fun h=>by rw [h] at hb;cases hb
 have hn' : ¬ fn.name = "runtime.NumGoroutine" := by simpa using hn
 simp [go_sem,callFunc,hf,hn',hb']
def oK (B:Nat) (fp:List Nat) (F:FuncId) (cap:Array Value) (o:DOp) (w:World):Prop:=
 ∀(x:al) (ms:List ai) (ds:List (Int×List Int)) (fm fd:List Nat),aD w B x ms ds fm fd->bJ ms->(∀b∈fp,b≠B/\b∉fm)->o.1<ms.length ->
  Calls Tryz.prog F cap w fun e w'=>e=.returned (.tuple #[])/\∃fm',aD w' B x (ms.set o.1 (opF o x (ms.getD o.1 ew))) ds fm' fd/\aI B fm w fm' w'
def opOw (B:Nat) (w:World) (vs:List Value) (o:DOp) (fp:List Nat):Prop:=
 ∃F cap,vs=[.func (Fn.func F) #[] cap]/\mG F cap/\(∀b∈fp,b<w.heap.size)/\∀w':World,(∀b∈fp,w'.heap[b]?=w.heap[b]?)->w.heap.size<=w'.heap.size->oK B fp F cap o w'
abbrev mT (B:Nat):Ty where
 n:=1
 D:=DOp
 rd:=opOw B
 ow:=opOw B
 owRd:=fun h=>h
 rdLen:=fun ⟨_,_,h,_⟩=>by rw [h];rfl
 rdLt:=fun ⟨_,_,_,_,h,_⟩=>h
 rdKept:=fun ⟨F,cap,h,he,hl,hr⟩ hk hs=>⟨F,cap,h,he,fun b hb=>Nat.lt_of_lt_of_le (hl b hb) hs,fun w'' hk2 hs2=>hr w'' (fun b hb=>(hk2 b hb).trans (hk b hb)) (Nat.le_trans hs hs2)⟩
 owKept:=fun ⟨F,cap,h,he,hl,hr⟩ hk hs=>⟨F,cap,h,he,fun b hb=>Nat.lt_of_lt_of_le (hl b hb) hs,fun w'' hk2 hs2=>hr w'' (fun b hb=>(hk2 b hb).trans (hk b hb)) (Nat.le_trans hs hs2)⟩
abbrev sG (B:Nat):Ty:=bH (mT B) 165
abbrev jB:Value:=.iface 150 (.agg #[])
abbrev nN:List PanicEntry:=[{ v:=jB,recovered:=false }]
def dD (y:al) (e:Ending):Prop:=if y.down=true then e=.panicked nN else e=.returned (.tuple #[])
theorem dD.gone {y:al} (h:y.down=true):dD y (.panicked nN):=by unfold dD;rw [if_pos h]
theorem dD.fine {y:al} (h:y.down=false):dD y (.returned (.tuple #[])):=by unfold dD;rw [if_neg (by simp [h])]
def Did (w:World) (B:Nat) (fm:List Nat) (ds:List (Int×List Int)) (fd:List Nat) (q:al×List ai) (e:Ending) (w':World):Prop:=dD q.1 e/\∃fm',aD w' B q.1 q.2 ds fm' fd/\aI B fm w fm' w'
theorem dop_at {w:World} {B n cap j:Nat} {bo:Option Addr} {ops:List DOp} {o:DOp} {fo:List Nat} (h:(sG B).Mine w [.slice bo n cap] ops fo) (hj:ops[j]?=some o):
 ∃(g:Nat) (F:FuncId) (cp:Array Value) (fp:List Nat),bo=some ⟨g,0,none⟩/\g<w.heap.size/\w.cell? ⟨g,j,none⟩=some (.func (Fn.func F) #[] cp)/\mG F cp/\(∀b∈fp,b∈fo)/\∀w':World,(∀b∈fp,w'.heap[b]?=w.heap[b]?)->w.heap.size<=w'.heap.size->oK B fp F cp o w':=by
 obtain ⟨h,_⟩:=h;have hjl:=(List.getElem?_eq_some_iff.1 hj).1;rcases h with ⟨_,h2,_⟩|⟨b,cap',cur,fps,h1,h2,h3,h4,h5,h6,h7,h8⟩
 . rw [h2] at hjl;simp at hjl
 simp only [List.cons.injEq,Value.slice.injEq,and_true] at h1
 obtain ⟨f,hf,F,cp,hv,he,hl,hr⟩:=h8 j o hj;refine ⟨b,F,cp,f,h1.1,(Array.getElem?_eq_some_iff.1 h4).1,?_,he,fun b' hb'=>?_,hr⟩
 . rw [cell_of_row w b _ cur 165 (0,0) h4]
   have:((cur.toList.drop (j*1)).take 1)[0]?=some (.func (Fn.func F) #[] cp):=by rw [hv];rfl
   rw [List.getElem?_take,if_pos (by omega),List.getElem?_drop] at this;simpa using this
 rw [h6];exact List.mem_cons_of_mem _ (List.mem_flatten.2 ⟨f,List.mem_of_getElem? hf,hb'⟩)
theorem tV (w:World) (B:Nat) (x:al) (ms:List ai) (ds:List (Int×List Int)) (fm fd:List Nat) (h:aD w B x ms ds fm fd) (hf:x.uI<=1000) (hdn:x.down=false):
 Calls Tryz.prog 220 #[.pointer (some ⟨B,0,none⟩)] w fun e w'=>dD (opX x) e/\aD w' B (opX x) ms ds fm fd/\aI B fm w fm w':=by
 obtain ⟨bm,bd,cm,cd,X,hm,hd,hr,r1,r2⟩:=h;unfold aC at X;obtain ⟨k0,k1,k2,k3,k4,k5,k6,k7,k8,k9,k10,k11,k12⟩:=X.cells13;have fz:=X.frozen;by_cases h0:x.uI=0
 . have HX:Hid (opX x={x with down:=true,uI:=-1}):=by unfold Hid opX;rw [if_neg (by simp [hdn]),if_pos h0]
   have Y:=(X.set 11 (.bool true)).set 10 (.int .i64 (-1));have M:=aa ((hm.setCell (g:=B) (j:=11) r1 (.bool true)).setCell (g:=B) (j:=10) r1 (.int .i64 (-1)));have D:=aa ((hd.setCell (g:=B) (j:=11) r2 (.bool true)).setCell (g:=B) (j:=10) r2 (.int .i64 (-1)));have MV:=aa ((aI.set (B:=B) (j:=11) (fm:=fm) (w:=w) (.bool true)).trans (aI.set (B:=B) (j:=10) (.int .i64 (-1))));have YH:=aa Y;have HE:Hid (dD (opX x) (.panicked nN)):=dD.gone (by rw [HX.out]);rw [h0] at k10;clear Y X hm hd hdn h0;go_enter Tryz.func220,Tryz.ntmps220
   go_wp2
   refine ⟨rfl,HE.out,?_,MV.out⟩
   rw [HX.out];exact ⟨bm,bd,cm,cd,YH.out,M.out,D.out,hr,r1,r2⟩
 have e0:(x.uI==0)=false:=by simpa using h0
 by_cases h1:0<x.uI
 . have hw:IntKind.i64.wrap (x.uI-1)=x.uI-1:=IntWalk.i64_in _ (by omega)
   have HX:Hid (opX x={x with uI:=x.uI-1}):=by unfold Hid opX;rw [if_neg (by simp [hdn]),if_neg h0,if_pos h1]
   have HE:Hid (dD (opX x) (.returned (.tuple #[]))):=dD.fine (by rw [HX.out];exact hdn);have YH:=aa (X.set 10 (.int .i64 (x.uI-1)));have M:=aa (hm.setCell (g:=B) (j:=10) r1 (.int .i64 (x.uI-1)));have D:=aa (hd.setCell (g:=B) (j:=10) r2 (.int .i64 (x.uI-1)));have MV:=aa (aI.set (B:=B) (j:=10) (fm:=fm) (w:=w) (.int .i64 (x.uI-1)));clear X hm hd hdn h0;go_enter Tryz.func220,Tryz.ntmps220
   go_wp2
   refine bodyPost_end (v:=.tuple #[]) (results_none rfl _ _ _) rfl ?_
   exact ⟨HE.out,by rw [HX.out];exact ⟨bm,bd,cm,cd,YH.out,M.out,D.out,hr,r1,r2⟩,MV.out⟩
 have HX:Hid (opX x=x):=by unfold Hid opX;rw [if_neg (by simp [hdn]),if_neg h0,if_neg h1]
 have HE:Hid (dD (opX x) (.returned (.tuple #[]))):=dD.fine (by rw [HX.out];exact hdn);have YH:=aa X;clear hdn h0 X;go_enter Tryz.func220,Tryz.ntmps220
 go_wp2
 refine bodyPost_end (v:=.tuple #[]) (results_none rfl _ _ _) rfl ?_
 exact ⟨HE.out,by rw [HX.out];exact ⟨bm,bd,cm,cd,YH.out,hm,hd,hr,r1,r2⟩,aI.refl _ _ _⟩
theorem kO (w:World) (B:Nat) (x:al) (ms:List ai) (ds:List (Int×List Int)) (fm fd:List Nat) (h:aD w B x ms ds fm fd) (hf:x.uI<=1000) (hdn:x.down=false) (hM:bJ ms)
 (bo:Option Addr) (co:Nat) (ops:List DOp) (fo:List Nat) (ho:(sG B).Mine w [.slice bo ops.length co] ops fo) (hdis:∀b∈fo,b≠B/\b∉fm) (hop:∀o∈ops,o.1<ms.length/\dm ms o.1=false):
 Calls Tryz.prog 181 #[.pointer (some ⟨B,0,none⟩),.slice bo ops.length co] w (Did w B fm ds fd (dC (x,ms) ops)):=by
 have HK:=aa (fun j:Nat=>ql (q:=(x,ms)) hM hf (ops.take j));have HF:=aa (fun j k:Nat=>nt (x,ms) (ops.take j) k);have H0:=aa h;have hlo:=ho.lt;have hmx:=(ae ho.rd).2;have HO:=aa ho;have HD:=aa hdis;have HP:=aa hop;have HN:Hid (x.down=false):=hdn;have zz:=h.lt;have zm:=h.ltm.1;clear h ho hdis hop hdn;have hS:∀wr fm1,aI B fm w fm1 wr->aq (B :: fm) w wr/\∀b∈fm1,b∈fm∨w.heap.size<=b:=fun _ _ h=>h;go_enter Tryz.func181,Tryz.ntmps181
 go_wp2
 go_loopw [8] (fun i wr=>∃(j:Nat) (fm1:List Nat),j<=ops.length/\i=.int .i64 j/\(dC (x,ms) (ops.take j)).1.down=false/\aD wr B (dC (x,ms) (ops.take j)).1 (dC (x,ms) (ops.take j)).2 ds fm1 fd/\aI B fm w fm1 wr) (fun i _=>ops.length-(intOf i).toNat)
 case atStart=>exact ⟨0,fm,Nat.zero_le _,rfl,HN.out,H0.out,aI.refl _ _ _⟩
 obtain ⟨j,fm1,hj,rfl,hdj,hA,hMv⟩:=hrel;obtain ⟨hMj,hsj,hlj⟩:=HK.out j;have hfj:=hsj.2.2.2.2.2.2.2.2.2.1;by_cases hjn:j<ops.length
 . have i2:(j:Int)<(ops.length:Int):=by omega
   have i1:(0:Int)<=(j:Int):=by omega
   have hoj:ops[j]?=some (ops[j]'hjn):=List.getElem?_eq_getElem hjn;obtain ⟨p1,p2⟩:=HP.out _ (List.mem_of_getElem? hoj);generalize ops[j]'hjn=o at hoj p1 p2;have HS:=aa (rU (q:=(x,ms)) hoj);have HE:=aa (fun h=>tc (q:=(x,ms)) (ops:=ops) (j:=j+1) h);have hfl:=(HF.out j o.1).trans p2;generalize hst:dC (x,ms) (ops.take j)=st at hA hMj hsj hlj hfj HS hdj hfl;obtain ⟨y,ns⟩:=st;dsimp only at hA hMj hsj hlj hfj hdj hfl
   clear hst;obtain ⟨g,F,cp,fp,rfl,hg,hc,hen,hfp,hrun⟩:=dop_at HO.out hoj;have hgf:g∈fo:=by
    obtain ⟨hh,_⟩:=HO.out;rcases hh with ⟨h1,_⟩|⟨b,cap',cur,fps,h1,_,_,_,_,h6,_⟩
    . simp at h1
    simp at h1;rw [h6,h1.1];exact List.mem_cons_self
   have hnf:∀b∈fo,b∉(B :: fm):=fun b hb hm=>by
    rcases List.mem_cons.1 hm with e|hm
    . exact (HD.out b hb).1 e
    exact (HD.out b hb).2 hm
   have hcr:wr.cell? ⟨g,j,none⟩=some (.func (Fn.func F) #[] cp):=(World.cell?_of_block (w:=w) (hMv.1.block g hg (hnf g hgf))).trans hc;have MV:=aa hMv;have HA:=aa hA;have HR:=aa hrun;have HFP:=aa hfp;have HNF:=aa hnf;clear hA hMv hrun hfp hnf hc;go_wp2_with fail
   refine (tV _ B y ns ds fm1 fd HA.out hfj hdj).mono ?_
   rintro e w1 ⟨he,hA1,hMv1⟩;cases hob:opB y
   . have hdd:=opX_no hob
     unfold dD at he;rw [if_pos hdd] at he;subst he;have hget:ns[o.1]?=some (ns.getD o.1 ew):=by rw [List.getD_eq_getElem?_getD,List.getElem?_eq_getElem (by omega)];rfl
     have HV:Hid (dC (x,ms) ops=(opX y,ns)):=by
      have h9:dC (x,ms) (ops.take (j+1))=(opX y,ns):=HS.out.trans (qj hget hfl hob);exact (HE.out (by rw [h9];exact hdd)).trans h9
     have HD2:Hid (Did w B fm ds fd (dC (x,ms) ops) (.panicked nN) w1):=by
      unfold Hid Did;rw [HV.out];exact ⟨dD.gone hdd,fm1,hA1,MV.out.trans hMv1⟩
     clear hA1 hMv1;go_wp2
     exact ⟨rfl,HD2.out⟩
   have hdd:=uh hob;unfold dD at he;rw [if_neg (by simp [hdd])] at he;subst he;have hget:ns[o.1]?=some (ns.getD o.1 ew):=by rw [List.getD_eq_getElem?_getD,List.getElem?_eq_getElem (by omega)];rfl
   have HV:Hid (dC (x,ms) (ops.take (j+1))=(opX y,ns.set o.1 (opF o (opX y) (ns.getD o.1 ew)))):=by
    refine HS.out.trans ((og hget hfl hob).trans ?_)
    rw [uj]
   have MV1:=aa (MV.out.trans hMv1);have hsz:=MV1.out.size;have R1:=HR.out w1 (fun b hb=>MV1.out.1.block b (hlo b (HFP.out b hb)) (HNF.out b (HFP.out b hb))) hsz (opX y) ns ds fm1 fd hA1 hMj (fun b hb=>⟨(HD.out b (HFP.out b hb)).1,fun hm=>by
    rcases MV.out.2 b hm with h1|h1
    . exact (HD.out b (HFP.out b hb)).2 h1
    have:=hlo b (HFP.out b hb);omega⟩) (by omega)
   have RH:=aa R1;clear hA1 hMv1 R1;have hcf:∀w:World,Sem.run Tryz.prog (callFunc F cp) w=.ok (.enter F cp) w:=hen;go_wp2_with fail
   refine RH.out.mono ?_
   rintro e w2 ⟨rfl,fm2,hA2,hMv2⟩;have HB:=aa (MV1.out.trans hMv2);have HA2:=aa hA2;clear hA2 hMv2 hcr;go_wp2
   go_roundw
   case rel=>exact ⟨j+1,fm2,by omega,by go_num,by rw [HV.out];exact hdd,by rw [HV.out];exact HA2.out,HB.out⟩
   case measure=>simp [intOf];omega
 have ej:j=ops.length:=by omega
 have i2:¬(j:Int)<(ops.length:Int):=by omega
 subst ej;rw [List.take_length] at hA hdj;have HD2:Hid (Did w B fm ds fd (dC (x,ms) ops) (.returned (.tuple #[])) wr):=⟨dD.fine hdj,fm1,hA,hMv⟩;clear hA hMv;go_wp2
 refine bodyPost_end (v:=.tuple #[]) (results_none rfl _ _ _) rfl ?_
 exact HD2.out
theorem oN (w:World) (x:al) (am ad:Option Addr) (nm cm nd cd:Nat) (m:Int):Calls Tryz.prog 249 #[.agg #[.int .i64 x.id,.int .i64 x.n,.int .i64 x.s,.slice am nm cm,.int .i64 x.lost,.int .i64 x.uG,.int .i64 x.seq,.int .i64 x.tail,.int .i64 x.gen,.slice ad nd cd,.int .i64 x.uI,.bool x.down,.bool x.uH],.int .i64 m] w fun e w'=>e=.returned (.agg #[.int .i64 x.id,.int .i64 x.gen,.int .i64 m,.int .i64 x.n,.int .i64 x.s,.int .i64 x.tail,.int .i64 x.lost,.int .i64 x.uG])/\Below w.heap.size w w':=by
 have X:Box ((w.alloc (.cells #[.int .i64 x.id,.int .i64 x.n,.int .i64 x.s,.slice am nm cm,.int .i64 x.lost,.int .i64 x.uG,.int .i64 x.seq,.int .i64 x.tail,.int .i64 x.gen,.slice ad nd cd,.int .i64 x.uI,.bool x.down,.bool x.uH] 29)).alloc (.cells #[.int .i64 0,.int .i64 0,.int .i64 0,.int .i64 0,.int .i64 0,.int .i64 0,.int .i64 0,.int .i64 0] 161)) w.heap.size 29 #[.int .i64 x.id,.int .i64 x.n,.int .i64 x.s,.slice am nm cm,.int .i64 x.lost,.int .i64 x.uG,.int .i64 x.seq,.int .i64 x.tail,.int .i64 x.gen,.slice ad nd cd,.int .i64 x.uI,.bool x.down,.bool x.uH]:=(Box.new w _ _).alloc _;obtain ⟨k0,k1,k2,k3,k4,k5,k6,k7,k8,k9,k10,k11,k12⟩:=X.cells13;clear X;go_enter Tryz.func249,Tryz.ntmps249
 go_wp2
 refine bodyPost_ret (v:=.agg #[.int .i64 x.id,.int .i64 x.gen,.int .i64 m,.int .i64 x.n,.int .i64 x.s,.int .i64 x.tail,.int .i64 x.lost,.int .i64 x.uG]) (by simp [results,Tryz.results249,go_sem]) rfl ?_
 exact ⟨rfl,(ah w _).alloc (by simp) _⟩
theorem mW (w:World) (B p q m:Nat) (hp:Box w p 63 #[.pointer (some ⟨B,0,none⟩)]) (hq:Box w q 3 #[.int .i64 (m:Int)]):oK B [p,q] 247 #[.pointer (some ⟨p,0,none⟩),.pointer (some ⟨q,0,none⟩)] (jM m) w:=by
 intro x ms ds fm fd hA hM hdis hlt;dsimp only [jM] at hlt
 obtain ⟨bm,bd,cm,cd,X,hmm,hdd,hr,r1,r2⟩:=hA;have hm63:=(ae hmm.rd).2;obtain ⟨g,rfl⟩:=bG hmm (by omega);have hdj:ms[m]?=some (ms[m]'(by omega)):=List.getElem?_eq_getElem (by omega);generalize ms[m]'(by omega)=d at hdj;have hgm:ms.getD m ew=d:=dr hdj;obtain ⟨hgl,a0,a1,a3,c0,c1,c3,ss,cs,f,bs,rfl,q0,q1,q2,q3,p0,p1,p3⟩:=dp hmm hdj;have X0:=X;unfold aC at X0;obtain ⟨k0,k1,k2,k3,k4,k5,k6,k7,k8,k9,k10,k11,k12⟩:=X0.cells13;have zp:=hp.lt;have cp:=hp.cell 0;have zq:=hq.lt;have cq:=hq.cell 0;have hwt:=dB (hM m _ hdj) f;dsimp only at hwt
 have zB:=X.lt;have XH:=aa X;have MH:=aa hmm;have DH:=aa hdd;have R0:=aa p0;have R1:=aa p1;have R3:=aa p3;have HG:=aa hgm;have hS:w.drew.cell? ⟨p,0,none⟩=some (.pointer (some ⟨B,0,none⟩))/\w.drew.cell? ⟨q,0,none⟩=some (.int .i64 (m:Int))/\w.drew.cell? ⟨B,0,none⟩=some (.int .i64 x.id)/\w.drew.cell? ⟨B,1,none⟩=some (.int .i64 x.n)/\w.drew.cell? ⟨B,2,none⟩=some (.int .i64 x.s)/\w.drew.cell? ⟨B,3,none⟩=some (.slice (some ⟨g,0,none⟩) ms.length cm)/\w.drew.cell? ⟨B,4,none⟩=some (.int .i64 x.lost)/\w.drew.cell? ⟨B,5,none⟩=some (.int .i64 x.uG)/\w.drew.cell? ⟨B,6,none⟩=some (.int .i64 x.seq)/\w.drew.cell? ⟨B,7,none⟩=some (.int .i64 x.tail)/\w.drew.cell? ⟨B,8,none⟩=some (.int .i64 x.gen)/\w.drew.cell? ⟨B,9,none⟩=some (.slice bd ds.length cd)/\w.drew.cell? ⟨B,10,none⟩=some (.int .i64 x.uI)/\w.drew.cell? ⟨B,11,none⟩=some (.bool x.down)/\w.drew.cell? ⟨B,12,none⟩=some (.bool x.uH)/\w.drew.cell? ⟨g,m*4,none⟩=some (.slice a0 ss.length c0)/\w.drew.cell? ⟨g,m*4+1,none⟩=some (.slice a1 cs.length c1)/\w.drew.cell? ⟨g,m*4+2,none⟩=some (.bool f)/\w.drew.cell? ⟨g,m*4+3,none⟩=some (.slice a3 bs.length c3):=⟨cp,cq,k0,k1,k2,k3,k4,k5,k6,k7,k8,k9,k10,k11,k12,q0,q1,q2,q3⟩;have i1:(0:Int)<=(m:Int):=by omega
 have i3:(m:Int)<(ms.length:Int):=by omega
 clear X X0 hmm hdd p0 p1 p3 hM hdj hgm hdis;go_enter Tryz.func247,Tryz.ntmps247
 go_wp2_with fail
 refine af.start (S:=fun w'=>w'.cell? ⟨p,0,none⟩=some (.pointer (some ⟨B,0,none⟩))/\w'.cell? ⟨q,0,none⟩=some (.int .i64 (m:Int))/\w'.cell? ⟨B,0,none⟩=some (.int .i64 x.id)/\w'.cell? ⟨B,1,none⟩=some (.int .i64 x.n)/\w'.cell? ⟨B,2,none⟩=some (.int .i64 x.s)/\w'.cell? ⟨B,3,none⟩=some (.slice (some ⟨g,0,none⟩) ms.length cm)/\w'.cell? ⟨B,4,none⟩=some (.int .i64 x.lost)/\w'.cell? ⟨B,5,none⟩=some (.int .i64 x.uG)/\w'.cell? ⟨B,6,none⟩=some (.int .i64 x.seq)/\w'.cell? ⟨B,7,none⟩=some (.int .i64 x.tail)/\w'.cell? ⟨B,8,none⟩=some (.int .i64 x.gen)/\w'.cell? ⟨B,9,none⟩=some (.slice bd ds.length cd)/\w'.cell? ⟨B,10,none⟩=some (.int .i64 x.uI)/\w'.cell? ⟨B,11,none⟩=some (.bool x.down)/\w'.cell? ⟨B,12,none⟩=some (.bool x.uH)/\w'.cell? ⟨g,m*4,none⟩=some (.slice a0 ss.length c0)/\w'.cell? ⟨g,m*4+1,none⟩=some (.slice a1 cs.length c1)/\w'.cell? ⟨g,m*4+2,none⟩=some (.bool f)/\w'.cell? ⟨g,m*4+3,none⟩=some (.slice a3 bs.length c3)) (k:=19) (by kernel_rfl) ?_
 refine af.t 0 hS ?_
 refine af.t 1 hS ?_
 refine af.t 2 hS ?_
 refine af.t 3 hS ?_
 refine af.t 4 hS ?_
 refine af.t 5 hS ?_
 refine af.t 6 hS ?_
 refine af.t 7 hS ?_
 refine af.t 8 hS ?_
 refine af.t 9 hS ?_
 refine af.t 10 hS ?_
 refine af.t 11 hS ?_
 refine af.t 12 hS ?_
 refine af.t 13 hS ?_
 refine af.t 14 hS ?_
 refine af.t 15 hS ?_
 refine af.one (i:=16) (by kernel_rfl) rfl (fun K hK=>?_)
 go_simp
 refine (oN _ x _ _ _ _ _ _ (m:Int)).mono ?_
 rintro e w1 ⟨rfl,b1'⟩;have b1:Below w.heap.size w w1:=(Below.refl w.heap.size w).drew.trans b1';have hS1:w1.cell? ⟨p,0,none⟩=some (.pointer (some ⟨B,0,none⟩))/\w1.cell? ⟨q,0,none⟩=some (.int .i64 (m:Int))/\w1.cell? ⟨B,0,none⟩=some (.int .i64 x.id)/\w1.cell? ⟨B,1,none⟩=some (.int .i64 x.n)/\w1.cell? ⟨B,2,none⟩=some (.int .i64 x.s)/\w1.cell? ⟨B,3,none⟩=some (.slice (some ⟨g,0,none⟩) ms.length cm)/\w1.cell? ⟨B,4,none⟩=some (.int .i64 x.lost)/\w1.cell? ⟨B,5,none⟩=some (.int .i64 x.uG)/\w1.cell? ⟨B,6,none⟩=some (.int .i64 x.seq)/\w1.cell? ⟨B,7,none⟩=some (.int .i64 x.tail)/\w1.cell? ⟨B,8,none⟩=some (.int .i64 x.gen)/\w1.cell? ⟨B,9,none⟩=some (.slice bd ds.length cd)/\w1.cell? ⟨B,10,none⟩=some (.int .i64 x.uI)/\w1.cell? ⟨B,11,none⟩=some (.bool x.down)/\w1.cell? ⟨B,12,none⟩=some (.bool x.uH)/\w1.cell? ⟨g,m*4,none⟩=some (.slice a0 ss.length c0)/\w1.cell? ⟨g,m*4+1,none⟩=some (.slice a1 cs.length c1)/\w1.cell? ⟨g,m*4+2,none⟩=some (.bool f)/\w1.cell? ⟨g,m*4+3,none⟩=some (.slice a3 bs.length c3):=⟨(b1.cell (p:=⟨p,0,none⟩) zp).trans cp,(b1.cell (p:=⟨q,0,none⟩) zq).trans cq,(b1.cell (p:=⟨B,0,none⟩) zB).trans k0,(b1.cell (p:=⟨B,1,none⟩) zB).trans k1,(b1.cell (p:=⟨B,2,none⟩) zB).trans k2,(b1.cell (p:=⟨B,3,none⟩) zB).trans k3,(b1.cell (p:=⟨B,4,none⟩) zB).trans k4,(b1.cell (p:=⟨B,5,none⟩) zB).trans k5,(b1.cell (p:=⟨B,6,none⟩) zB).trans k6,(b1.cell (p:=⟨B,7,none⟩) zB).trans k7,(b1.cell (p:=⟨B,8,none⟩) zB).trans k8,(b1.cell (p:=⟨B,9,none⟩) zB).trans k9,(b1.cell (p:=⟨B,10,none⟩) zB).trans k10,(b1.cell (p:=⟨B,11,none⟩) zB).trans k11,(b1.cell (p:=⟨B,12,none⟩) zB).trans k12,(b1.cell (p:=⟨g,m*4,none⟩) hgl).trans q0,(b1.cell (p:=⟨g,m*4+1,none⟩) hgl).trans q1,(b1.cell (p:=⟨g,m*4+2,none⟩) hgl).trans q2,(b1.cell (p:=⟨g,m*4+3,none⟩) hgl).trans q3⟩;have zb1:=b1.size;have B1:=aa b1;clear b1 b1';go_wp2_with fail
 refine hK.out _ _ (fun _=>hS1) ?_
 clear hK K;refine af.one (i:=17) (by kernel_rfl) rfl (fun K hK=>?_)
 go_simp
 refine (iZ _ 142 _ _ _ _ _ _ _ _ _ ss cs f bs (gk x m) (R0.out.below B1.out) (R1.out.below B1.out) (R3.out.below B1.out) (by omega)).mono ?_
 rintro e w2 ⟨u0,u1,u3,rfl,o2,b2'⟩;have b2:Below w.heap.size w w2:=Below.andThen B1.out b2';have o2b:(bC 142).Own w2 w.heap.size w2.heap.size [u0,u1,.bool f,u3] _:=o2.widen zb1 (Nat.le_refl _);obtain ⟨d0,l0,f0,d1,l1,f1,d3,l3,f3,hv0,hv1,hv3⟩:=bE o2b;subst hv0 hv1 hv3;obtain ⟨fpx,mx,rx⟩:=o2b.mine;obtain ⟨cOld,fz,hgm,fm9,hA9,hMv9⟩:=di (m:=m) XH.out MH.out DH.out hr r1 r2 b2 (by omega) mx (fun b hb=>(rx b hb).1);obtain ⟨o0,t0⟩:=cOld 0 (by omega);obtain ⟨o1,t1⟩:=cOld 1 (by omega);obtain ⟨o2',t2⟩:=cOld 2 (by omega);obtain ⟨o3,t3⟩:=cOld 3 (by omega);rw [Nat.add_zero] at t0;have HA:=aa hA9;have HMV:=aa hMv9;have hS2:w2.cell? ⟨p,0,none⟩=some (.pointer (some ⟨B,0,none⟩))/\w2.cell? ⟨q,0,none⟩=some (.int .i64 (m:Int))/\w2.cell? ⟨B,0,none⟩=some (.int .i64 x.id)/\w2.cell? ⟨B,1,none⟩=some (.int .i64 x.n)/\w2.cell? ⟨B,2,none⟩=some (.int .i64 x.s)/\w2.cell? ⟨B,3,none⟩=some (.slice (some ⟨g,0,none⟩) ms.length cm)/\w2.cell? ⟨B,4,none⟩=some (.int .i64 x.lost)/\w2.cell? ⟨B,5,none⟩=some (.int .i64 x.uG)/\w2.cell? ⟨B,6,none⟩=some (.int .i64 x.seq)/\w2.cell? ⟨B,7,none⟩=some (.int .i64 x.tail)/\w2.cell? ⟨B,8,none⟩=some (.int .i64 x.gen)/\w2.cell? ⟨B,9,none⟩=some (.slice bd ds.length cd)/\w2.cell? ⟨B,10,none⟩=some (.int .i64 x.uI)/\w2.cell? ⟨B,11,none⟩=some (.bool x.down)/\w2.cell? ⟨B,12,none⟩=some (.bool x.uH)/\w2.cell? ⟨g,m*4,none⟩=some (.slice a0 ss.length c0)/\w2.cell? ⟨g,m*4+1,none⟩=some (.slice a1 cs.length c1)/\w2.cell? ⟨g,m*4+2,none⟩=some (.bool f)/\w2.cell? ⟨g,m*4+3,none⟩=some (.slice a3 bs.length c3):=⟨(b2.cell (p:=⟨p,0,none⟩) zp).trans cp,(b2.cell (p:=⟨q,0,none⟩) zq).trans cq,(b2.cell (p:=⟨B,0,none⟩) zB).trans k0,(b2.cell (p:=⟨B,1,none⟩) zB).trans k1,(b2.cell (p:=⟨B,2,none⟩) zB).trans k2,(b2.cell (p:=⟨B,3,none⟩) zB).trans k3,(b2.cell (p:=⟨B,4,none⟩) zB).trans k4,(b2.cell (p:=⟨B,5,none⟩) zB).trans k5,(b2.cell (p:=⟨B,6,none⟩) zB).trans k6,(b2.cell (p:=⟨B,7,none⟩) zB).trans k7,(b2.cell (p:=⟨B,8,none⟩) zB).trans k8,(b2.cell (p:=⟨B,9,none⟩) zB).trans k9,(b2.cell (p:=⟨B,10,none⟩) zB).trans k10,(b2.cell (p:=⟨B,11,none⟩) zB).trans k11,(b2.cell (p:=⟨B,12,none⟩) zB).trans k12,(b2.cell (p:=⟨g,m*4,none⟩) hgl).trans q0,(b2.cell (p:=⟨g,m*4+1,none⟩) hgl).trans q1,(b2.cell (p:=⟨g,m*4+2,none⟩) hgl).trans q2,(b2.cell (p:=⟨g,m*4+3,none⟩) hgl).trans q3⟩;have gB:¬g=B:=fun e=>r1 (e▸hgm);unfold ez at HA HMV;clear cp cq k0 k1 k2 k3 k4 k5 k6 k7 k8 k9 k10 k11 k12 q0 q1 q2 q3 o2 o2b b2 b2' mx rx cOld hA9 hMv9 XH MH DH R0 R1 R3 hwt hS1 B1;go_wp2_with fail
 refine hK.out _ _ (fun _=>hS2) ?_
 clear hK K;refine af.t 18 hS2 ?_
 refine af.one (i:=19) (by kernel_rfl) rfl (fun K hK=>?_)
 go_simp
 refine hK.out _ _ (fun h=>absurd rfl h) ?_
 clear hK K;refine af.done (by kernel_rfl) ?_ _
 clear hS hS2 t0 t1 t2 t3 fz;go_wp2
 refine bodyPost_end (v:=.tuple #[]) (results_none rfl _ _ _) rfl ?_
 refine ⟨rfl,fm9,?_,HMV.out⟩
 show aD _ B x (ms.set m (opF (jM m) x (ms.getD m ew))) ds fm9 fd
 rw [HG.out];exact HA.out
theorem pV (w:World) (B m:Nat):Calls Tryz.prog 229 #[.pointer (some ⟨B,0,none⟩),.int .i64 (m:Int)] w fun e w'=>∃v,e=.returned v/\(mT B).Own w' w.heap.size w'.heap.size [v] (jM m)/\Below w.heap.size w w':=by
 have hmf:∀(fn:Fn) (first cap:Array Value) (w:World),(Instr.makeFunc fn first cap).run Tryz.prog w=.ok (.func fn first cap) w:=fun _ _ _ _=>rfl;have hb:Below w.heap.size w ((w.alloc (.cells #[.pointer (some ⟨B,0,none⟩)] 63)).alloc (.cells #[.int .i64 (m:Int)] 3)):=((Below.refl _ _).alloc (Nat.le_refl _) _).alloc (by simp) _;have b0:Box ((w.alloc (.cells #[.pointer (some ⟨B,0,none⟩)] 63)).alloc (.cells #[.int .i64 (m:Int)] 3)) w.heap.size 63 #[.pointer (some ⟨B,0,none⟩)]:=(Box.new w _ _).alloc _;have b1:=Box.new (w.alloc (.cells #[.pointer (some ⟨B,0,none⟩)] 63)) 3 #[.int .i64 (m:Int)];rw [World.size_alloc] at b1;have hsz:((w.alloc (.cells #[.pointer (some ⟨B,0,none⟩)] 63)).alloc (.cells #[.int .i64 (m:Int)] 3)).heap.size=w.heap.size+1+1:=by simp
 have HO:Hid ((mT B).Own ((w.alloc (.cells #[.pointer (some ⟨B,0,none⟩)] 63)).alloc (.cells #[.int .i64 (m:Int)] 3)) w.heap.size ((w.alloc (.cells #[.pointer (some ⟨B,0,none⟩)] 63)).alloc (.cells #[.int .i64 (m:Int)] 3)).heap.size [.func (Fn.func 247) #[] #[.pointer (some ⟨w.heap.size,0,none⟩),.pointer (some ⟨w.heap.size+1,0,none⟩)]] (jM m)):=by
  refine ⟨[w.heap.size,w.heap.size+1],⟨247,_,rfl,?_,?_,fun w' hk hs=>?_⟩,?_,?_⟩
  . exact gV Tryz.func247 (by kernel_rfl) (by kernel_rfl) _
  . intro b hb';simp at hb';omega
  . exact mW w' B _ _ m (b0.kept (hk _ (by simp))) (b1.kept (hk _ (by simp)))
  . simp
  intro b hb';simp at hb';omega
 have HB:=aa hb;clear hb b0 b1 hsz;go_enter Tryz.func229,Tryz.ntmps229
 go_wp2
 go_ret
 exact ⟨_,rfl,HO.out,HB.out⟩
end Go.Proofs.YtejokiafgbjdaaaGreat
